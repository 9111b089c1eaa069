import PyProof.Rows.All
import Wide.All
import OpenK.AllK
import Wide.FinOn
import PyProof.EqAt
import PyProof.EqKinds
import PyProof.TupleCall
import KE.BitLaws
import Open.SpecLaws
import KE.OsHead
import KE.OsGo
import PySem.Challenge.RW_panetriggers_s01_answers
set_option Elab.async false
set_option linter.all false
set_option maxRecDepth 100000
namespace L2
open PySem PySem.Spec PyProof.Rows
abbrev Key := Sum Int Str
def keyIs : Key → Value → Bool
  | .inl k, v => Value.isInt k v
  | .inr x, v => Value.isStrOf x v
def keyH (w : World) : Key → Int
  | .inl k => hashInt k
  | .inr x => hashStr w x
theorem keyIs_shape : ∀ {k : Key} {v : Value}, keyIs k v = true → (∃ i t, k = Sum.inl i ∧ v = Value.int i t) ∨ (∃ x t, k = Sum.inr x ∧ v = Value.str x t)
  | .inl i, v, h => by
    obtain ⟨t, e⟩ := Value.isInt_shape (k := i) (v := v) h
    exact .inl ⟨i, t, rfl, e⟩
  | .inr x, v, h => by
    obtain ⟨t, e⟩ := Value.isStrOf_shape (x := x) (v := v) h
    exact .inr ⟨x, t, rfl, e⟩
theorem keyIs_int (i : Int) (t : Tok) : keyIs (.inl i) (.int i t) = true := by simp [keyIs, Value.isInt]
theorem keyIs_str (x : Str) (t : Tok) : keyIs (.inr x) (.str x t) = true := by simp [keyIs, Value.isStrOf]
theorem key_ll (a b : Int) : decide ((Sum.inl a : Key) = Sum.inl b) = (a == b) := by
  by_cases e : a = b
  · subst e; simp
  · have h : ¬ (Sum.inl a : Key) = Sum.inl b := fun q => e (Sum.inl.inj q)
    rw [decide_eq_false h]
    exact (beq_eq_false_iff_ne.mpr e).symm
theorem key_rr (a b : Str) : decide ((Sum.inr a : Key) = Sum.inr b) = decide (a = b) := by
  by_cases e : a = b
  · subst e; simp
  · have h : ¬ (Sum.inr a : Key) = Sum.inr b := fun q => e (Sum.inr.inj q)
    rw [decide_eq_false h, decide_eq_false e]
theorem key_lr (a : Int) (b : Str) : decide ((Sum.inl a : Key) = Sum.inr b) = false := decide_eq_false (fun q => nomatch q)
theorem key_rl (a : Str) (b : Int) : decide ((Sum.inr a : Key) = Sum.inl b) = false := decide_eq_false (fun q => nomatch q)
def mixKind (prog : Program) (w : World) : PySem.KeyKind prog w Key where
  is := keyIs
  hash := keyH w
  inj := fun v a b ha hb => by
    rcases keyIs_shape ha with ⟨i, t, rfl, rfl⟩ | ⟨x, t, rfl, rfl⟩
    · rcases keyIs_shape hb with ⟨j, u, rfl, e⟩ | ⟨y, u, rfl, e⟩
      · injection e with e1 _; rw [e1]
      · exact nomatch e
    · rcases keyIs_shape hb with ⟨j, u, rfl, e⟩ | ⟨y, u, rfl, e⟩
      · exact nomatch e
      · injection e with e1 _; rw [e1]
  byValue := fun k v h => by
    rcases keyIs_shape h with ⟨i, t, rfl, rfl⟩ | ⟨x, t, rfl, rfl⟩ <;> rfl
  pyHash := fun hv h => by
    rcases keyIs_shape hv with ⟨i, t, rfl, rfl⟩ | ⟨x, t, rfl, rfl⟩
    · exact wpAny_pyHash_int h
    · exact wpAny_pyHash_str h
  eqBool := fun hu hv h => by
    rcases keyIs_shape hu with ⟨i, t, rfl, rfl⟩ | ⟨x, t, rfl, rfl⟩
    · rcases keyIs_shape hv with ⟨j, u, rfl, rfl⟩ | ⟨y, u, rfl, rfl⟩
      · rw [key_ll] at h; exact wpAny_eqBool_int h
      · rw [key_lr] at h; exact SeqAt.EqAt.int_str i t y u _ _ _ _ h
    · rcases keyIs_shape hv with ⟨j, u, rfl, rfl⟩ | ⟨y, u, rfl, rfl⟩
      · rw [key_rl] at h; exact SeqAt.EqAt.str_int x t j u _ _ _ _ h
      · rw [key_rr] at h; exact wpAny_eqBool_str h
  «strs» := fun k x t v h => by
    rcases keyIs_shape h with ⟨i, u, rfl, e⟩ | ⟨y, u, rfl, e⟩
    · exact nomatch e
    · injection e with e1 _
      subst e1
      cases v <;> rfl
theorem mixKind_int (prog : Program) (w : World) (i : Int) (t : Tok) : (mixKind prog w).is (.inl i) (.int i t) = true := keyIs_int i t
theorem mixKind_str (prog : Program) (w : World) (x : Str) (t : Tok) : (mixKind prog w).is (.inr x) (.str x t) = true := keyIs_str x t
end L2
namespace L2
open PySem PySem.Spec PyProof.Rows
inductive V where
  | non | bl (b : Bool) | int (i : Int) | str (x : Str) | byt (b : Array UInt8) | flt (b : UInt64) | ref (a : Addr) | ty (n : String)
  deriving DecidableEq
def RelV : V → Value → Prop
  | .non, u => u = Value.none
  | .bl b, u => u = Value.bool b
  | .int i, u => ∃ t, u = Value.int i t
  | .str x, u => ∃ t, u = Value.str x t
  | .byt b, u => ∃ t, u = Value.bytes b t
  | .flt b, u => ∃ t, u = Value.float b t
  | .ref a, u => u = Value.ref a
  | .ty n, u => u = Value.type n
abbrev Vals : List V → List Value → Prop := Paired RelV
theorem Vals.length {xs : List V} {us : List Value} (r : Vals xs us) : xs.length = us.length := Paired.length r
theorem Vals.get : ∀ {xs : List V} {us : List Value} {i : Nat} {x : V}, Vals xs us → xs[i]? = some x → ∃ u, us[i]? = some u ∧ RelV x u
  | _, _, _, _, .nil, e => by simp at e
  | _, _, 0, _, .cons r _, e => by simp at e; subst e; exact ⟨_, rfl, r⟩
  | _, _, i + 1, x, .cons _ t, e => by
    obtain ⟨u, h1, h2⟩ := Vals.get (i := i) (x := x) t (by simpa using e)
    exact ⟨u, by simpa using h1, h2⟩
theorem Vals.set {x : V} {u : Value} (r : RelV x u) : ∀ {xs : List V} {us : List Value} (i : Nat), Vals xs us → Vals (xs.set i x) (us.set i u)
  | _, _, _, .nil => .nil
  | _, _, 0, .cons _ t => .cons r t
  | _, _, i + 1, .cons q t => .cons q (Vals.set r i t)
theorem Vals.append : ∀ {xs ys : List V} {us ws : List Value}, Vals xs us → Vals ys ws → Vals (xs ++ ys) (us ++ ws)
  | _, _, _, _, .nil, s => s
  | _, _, _, _, .cons r t, s => .cons r (Vals.append t s)
theorem Vals.take : ∀ {xs : List V} {us : List Value} (n : Nat), Vals xs us → Vals (xs.take n) (us.take n)
  | _, _, 0, _ => .nil
  | _, _, _ + 1, .nil => .nil
  | _, _, n + 1, .cons r t => .cons r (Vals.take n t)
theorem Vals.drop : ∀ {xs : List V} {us : List Value} (n : Nat), Vals xs us → Vals (xs.drop n) (us.drop n)
  | _, _, 0, r => r
  | _, _, _ + 1, .nil => .nil
  | _, _, n + 1, .cons _ t => Vals.drop n t
theorem Vals.none_of : ∀ {xs : List V} {us : List Value} {i : Nat}, Vals xs us → xs[i]? = none → us[i]? = none := fun {xs us i} r e => by
  have h1 := r.length
  have h2 : xs.length ≤ i := List.getElem?_eq_none_iff.mp e
  exact List.getElem?_eq_none_iff.mpr (by omega)
def RelO : Option V → Option Value → Prop
  | some v, some u => RelV v u
  | none, none => True
  | _, _ => False
def KV {κ : Type} : List (κ × V) → List (κ × Value) → Prop := Paired fun (p : κ × V) (q : κ × Value) => p.1 = q.1 ∧ RelV p.2 q.2
def kV : Key → V
  | .inl i => .int i
  | .inr x => .str x
inductive HO where
  /-- a list -/
  | lst (xs : List V)
  /-- a tuple (never changes) -/
  | tup (xs : List V)
  /-- a dict whose keys are ints and texts; one whose keys are tuples of ints and texts (the empty one is both) -/
  | dK (kvs : List (Key × V)) | dT (kvs : List (List Key × V))
  /-- a set of ints: its members, its size -/
  | set (S : Int → Bool) (n : Nat)
  /-- an instance of the class at C, its dict at dx, its attributes -/
  | ins (C dx : Addr) (fs : List (Str × V))
  /-- the dict of the instance at x -/
  | own (x : Addr)
  /-- the dict of an exception -/
  | xd (fs : List (Str × V))
  /-- a bound method, f of x -/
  | met (f x : Addr)
  /-- a range object lo, lo + 1, .. below hi -/
  | rng (lo hi : Int)
  /-- a thing that is known to the object (the script; a dict while a loop walks it): read, never written while it is so -/
  | frz (o : Obj) (u : HO)
  /-- a code object's table -/
  | tbl (ps : Array Value)
  /-- any other thing, by what is true of its one object (a def of one's own: SetO a S n := HO.ext fun h => ..) -/
  | ext (φ : Heap → Prop)
abbrev Hp := Addr → Option HO
def upd (H : Hp) (a : Addr) (o : HO) : Hp := fun b => if b = a then some o else H b
theorem upd_same {H : Hp} {a : Addr} {o : HO} : upd H a o a = some o := by unfold upd; rw [if_pos rfl]
theorem upd_ne {H : Hp} {a b : Addr} {o : HO} (h : b ≠ a) : upd H a o b = H b := by unfold upd; rw [if_neg h]
theorem upd_upd {H : Hp} {a : Addr} {o u : HO} : upd (upd H a o) a u = upd H a u := by
  funext b; unfold upd; split <;> rfl
theorem ne_of {H : Hp} {a b : Addr} {o u : HO} (h : H a = some o) (h' : H b = some u) (d : o ≠ u) : a ≠ b := by
  intro e; subst e; rw [h] at h'; exact d (Option.some.inj h')
theorem ne_of_none {H : Hp} {a b : Addr} {o : HO} (h : H a = some o) (h' : H b = none) : a ≠ b := by
  intro e; subst e; rw [h] at h'; cases h'
section
variable (P : Program) (w : World)
def ObjOk (H : Hp) (h : Heap) (a : Addr) : HO → Prop
  | .lst xs => xs.length ≤ sizeLine ∧ ∃ (its : List Value) (n : Nat), Vals xs its ∧ h.get? a = some { cls := .type "list", data := .seq its.toArray n }
  | .tup xs => xs.length ≤ sizeLine ∧ ∃ its : List Value, Vals xs its ∧ IsTup h a its.toArray
  | .dK kvs => kvs.length ≤ sizeLine ∧ (a == sysModules) = false ∧ ∃ vs, KV kvs vs ∧ h.DictOf (mixKind P w) a vs
  | .dT kvs => kvs.length ≤ sizeLine ∧ (a == sysModules) = false ∧ ∃ xs : List (List Key × Addr × Value),
      Paired (fun (p : List Key × V) (q : List Key × Addr × Value) => p.1 = q.1 ∧ H q.2.1 = some (.tup (p.1.map kV)) ∧ RelV p.2 q.2.2) kvs xs ∧
      ∃ o es ep, h.get? a = some o ∧ o.ExactDict ∧ o.data = .dict es ep ∧ es.toList = xs.map (entryOfKey (tupleKind (mixKind P w))) ∧ (xs.map (·.1)).Nodup
  | .set S n => h.SetOf (intKind P w) a S n
  | .ins C dx fs => H dx = some (.own a) ∧ fs.length ≤ 1000 ∧ dx ≠ a ∧ h.get? a = some (PySem.W.instObj C dx) ∧
      ∃ mA, h.Ns1 dx mA ∧ (∀ f, RelO (fs.lookup f) (mA f)) ∧ PySem.Within mA (fs.map (·.1))
  | .own _ => ∃ o, h.get? a = some o
  | .xd fs => ∃ mA, h.Ns1 a mA ∧ ∀ f, RelO (fs.lookup f) (mA f)
  | .rng lo hi => ∃ t u v, h.get? a = some { cls := .type "range", data := .fields #[.int lo t, .int hi u, .int 1 v] }
  | .frz o u => h.get? a = some o ∧ ObjOk H h a u
  | .tbl ps => h.get? a = some { cls := .none, data := .fields ps }
  | .met f x => h.get? a = some (PySem.W.methodObj (.ref f) (.ref x))
  | .ext φ => φ h ∧ (∃ o, h.get? a = some o) ∧ ∀ h1 h2 : Heap, φ h1 → (∀ o, h1.get? a = some o → h2.get? a = some o) → φ h2
def HOk (H : Hp) (h : Heap) : Prop := ∀ a o, H a = some o → ObjOk P w H h a o
end
section
variable {P : Program} {w : World} {H H' : Hp} {h h' : Heap} {a : Addr} {o : HO}
theorem ObjOk.lt (x : ObjOk P w H h a o) : a < h.objs.size := by
  cases o with
  | lst xs => obtain ⟨_, _, _, _, e⟩ := x; exact Heap.lt_size e
  | tup xs => obtain ⟨_, _, _, p⟩ := x; exact p.lt
  | dK kvs => obtain ⟨_, _, _, _, o, _, _, e, _⟩ := x; exact Heap.lt_size e
  | dT kvs => obtain ⟨_, _, _, _, o, _, _, e, _⟩ := x; exact Heap.lt_size e
  | set S n => obtain ⟨o, _, _, _, e, _⟩ := x; exact Heap.lt_size e
  | ins C dx fs => obtain ⟨_, _, _, e, _⟩ := x; exact Heap.lt_size e
  | own y => obtain ⟨_, e⟩ := x; exact Heap.lt_size e
  | xd fs => obtain ⟨_, ⟨_, _, _, e, _⟩, _⟩ := x; exact Heap.lt_size e
  | rng lo hi => obtain ⟨_, _, _, e⟩ := x; exact Heap.lt_size e
  | frz ob u => obtain ⟨e, _⟩ := x; exact Heap.lt_size e
  | tbl ps => exact Heap.lt_size (show h.get? a = some _ from x)
  | met f y => exact Heap.lt_size (show h.get? a = some _ from x)
  | ext φ => obtain ⟨_, ⟨_, e⟩, _⟩ := x; exact Heap.lt_size e
theorem Paired.mapP {α β : Type} {F G : α → β → Prop} : ∀ {l₁ : List α} {l₂ : List β}, Paired F l₁ l₂ → (∀ a b, F a b → G a b) → Paired G l₁ l₂
  | _, _, .nil, _ => .nil
  | _, _, .cons r t, f => .cons (f _ _ r) (Paired.mapP t f)
theorem ObjOk.stay (x : ObjOk P w H h a o) (k : ∀ b u, (b = a ∨ H b = some (.own a)) → h.get? b = some u → h'.get? b = some u)
    (ho : ∀ b, H b = some (.own a) → H' b = some (.own a)) (ht : ∀ b xs, H b = some (.tup xs) → H' b = some (.tup xs)) : ObjOk P w H' h' a o := by
  induction o with
  | lst xs => obtain ⟨z, its, n, r, e⟩ := x; exact ⟨z, its, n, r, k _ _ (.inl rfl) e⟩
  | tup xs => obtain ⟨z, its, r, ob, e, c⟩ := x; exact ⟨z, its, r, ob, k _ _ (.inl rfl) e, c⟩
  | dK kvs => obtain ⟨z, y, vs, r, ob, es, ep, e, c⟩ := x; exact ⟨z, y, vs, r, ob, es, ep, k _ _ (.inl rfl) e, c⟩
  | dT kvs =>
    obtain ⟨z, y, xs, r, ob, es, ep, e, c⟩ := x
    exact ⟨z, y, xs, Paired.mapP r fun p q z => ⟨z.1, ht _ _ z.2.1, z.2.2⟩, ob, es, ep, k _ _ (.inl rfl) e, c⟩
  | set S n => obtain ⟨ob, es, ep, t, e, c⟩ := x; exact ⟨ob, es, ep, t, k _ _ (.inl rfl) e, c⟩
  | ins C dx fs =>
    obtain ⟨d, z, ne, e, mA, ⟨od, es, ep, e2, c⟩, r⟩ := x
    exact ⟨ho _ d, z, ne, k _ _ (.inl rfl) e, mA, ⟨od, es, ep, k _ _ (.inr d) e2, c⟩, r⟩
  | own y => obtain ⟨ob, e⟩ := x; exact ⟨ob, k _ _ (.inl rfl) e⟩
  | xd fs => obtain ⟨mA, ⟨od, es, ep, e, c⟩, r⟩ := x; exact ⟨mA, ⟨od, es, ep, k _ _ (.inl rfl) e, c⟩, r⟩
  | rng lo hi => obtain ⟨t, u, v, e⟩ := x; exact ⟨t, u, v, k _ _ (.inl rfl) e⟩
  | frz ob u ih => obtain ⟨e, q⟩ := x; exact ⟨k _ _ (.inl rfl) e, ih q⟩
  | tbl ps =>
    have e : h.get? a = some { cls := .none, data := .fields ps } := x
    show h'.get? a = some { cls := .none, data := .fields ps }
    exact k a _ (.inl rfl) e
  | met f y =>
    have e : h.get? a = some (PySem.W.methodObj (.ref f) (.ref y)) := x
    show h'.get? a = some (PySem.W.methodObj (.ref f) (.ref y))
    exact k a _ (.inl rfl) e
  | ext φ => obtain ⟨p, ⟨o, e⟩, st⟩ := x; exact ⟨st _ _ p fun o q => k _ _ (.inl rfl) q, ⟨o, k _ _ (.inl rfl) e⟩, st⟩
theorem HOk.lt (x : HOk P w H h) (e : H a = some o) : a < h.objs.size := (x a o e).lt
theorem HOk.fresh (x : HOk P w H h) (e : h.objs.size ≤ a) : H a = none := by
  cases q : H a with
  | none => rfl
  | some u => exact absurd (Nat.lt_of_lt_of_le (x.lt q) e) (Nat.lt_irrefl _)
theorem HOk.kept (x : HOk P w H h) (k : ∀ b u, h.get? b = some u → h'.get? b = some u) : HOk P w H h' := fun a o e =>
  (x a o e).stay (fun b u _ q => k b u q) (fun _ q => q) fun _ _ q => q
theorem HOk.laid (x : HOk P w H h) (k : ∀ b u, h.get? b = some u → h'.get? b = some u) (hp : h.objs.size ≤ a) (new : ObjOk P w (upd H a o) h' a o) : HOk P w (upd H a o) h' := fun b u e => by
  have hn := x.fresh hp
  by_cases hb : b = a
  · subst hb; rw [upd_same] at e; cases e; exact new
  · rw [upd_ne hb] at e
    exact (x b u e).stay (fun c v _ q => k c v q) (fun c q => by rw [upd_ne (ne_of_none q hn)]; exact q) fun c xs q => by rw [upd_ne (ne_of_none q hn)]; exact q
end
def Rd (H : Hp) (a : Addr) (u : HO) : Prop := H a = some u ∨ ∃ o, H a = some (.frz o u)
theorem Rd.of {H : Hp} {a : Addr} {u : HO} (h : H a = some u) : Rd H a u := .inl h
theorem Rd.ok {P : Program} {w : World} {H : Hp} {h : Heap} {a : Addr} {u : HO} (r : Rd H a u) (x : HOk P w H h) : ObjOk P w H h a u := by
  rcases r with r | ⟨o, r⟩
  · exact x a u r
  · obtain ⟨_, q⟩ := x a _ r
    exact q
def Mut : Option HO → Prop
  | some (.lst _) => True
  | some (.dK _) => True
  | some (.dT _) => True
  | some (.set _ _) => True
  | some (.ins _ _ _) => True
  | some (.ext _) => True
  | _ => False
section
variable {P : Program} {w : World} {H : Hp} {h h' : Heap} {x e : Addr} {o' : HO}
theorem HOk.write (ok : HOk P w H h) (mu : Mut (H x)) (he : e = x ∨ H e = some (.own x)) (k : ∀ b u, b ≠ e → h.get? b = some u → h'.get? b = some u) (heo : ∃ u, h'.get? e = some u)
    (new : ObjOk P w (upd H x o') h' x o') : HOk P w (upd H x o') h' := fun b u q => by
  have nown : ∀ c y, H c = some (.own y) → c ≠ x := fun c y r z => by subst z; rw [r] at mu; exact mu
  have ntup : ∀ c xs, H c = some (.tup xs) → c ≠ x := fun c xs r z => by subst z; rw [r] at mu; exact mu
  by_cases hb : b = x
  · subst hb; rw [upd_same] at q; cases q; exact new
  · rw [upd_ne hb] at q
    by_cases hbe : b = e
    · have q' : H b = some (.own x) := by
        rcases he with z | z
        · exact absurd (hbe.trans z) hb
        · rw [hbe]; exact z
      rw [q] at q'; cases q'
      obtain ⟨v, hv⟩ := heo
      exact ⟨v, by rw [hbe]; exact hv⟩
    · refine (ok b u q).stay (fun c v hc r => k c v ?_ r) (fun c r => by rw [upd_ne (nown c b r)]; exact r) fun c xs r => by rw [upd_ne (ntup c xs r)]; exact r
      rcases hc with rfl | hc
      · exact hbe
      · rintro rfl
        rcases he with z | z
        · exact nown c b hc z
        · rw [hc] at z; cases z; exact hb rfl
end
structure Un (fs ex : List Addr) (H H' : Hp) (h h' : Heap) : Prop where
  keep : ∀ b o, h.get? b = some o → H b = none → b ∉ fs → b ∉ ex → h'.get? b = some o
  slot : ∀ b o, h.get? b = some o → H b = none → b ∈ fs → b ∉ ex → ∃ sl, h'.get? b = some { o with slots := sl }
  free : ∀ b o, h.get? b = some o → H b = none → b ∉ ex → H' b = none
  there : ∀ b o, h.get? b = some o → b ∉ ex → ∃ o', h'.get? b = some o'
  tups : ∀ b xs, H b = some (.tup xs) → H' b = some (.tup xs)
  frzs : ∀ b o u, H b = some (.frz o u) → H' b = some (.frz o u)
  tbls : ∀ b ps, H b = some (.tbl ps) → ∃ more, H' b = some (.tbl (ps ++ more))
section
variable {fs fs' ex ex' : List Addr} {H H1 H2 : Hp} {h h1 h2 h' : Heap} {a x e : Addr} {o : HO}
theorem Un.any (u : Un fs ex H H1 h h1) {b : Addr} {ob : Obj} (q : h.get? b = some ob) (n : H b = none) (hx : b ∉ ex) : ∃ sl, h1.get? b = some { ob with slots := sl } := by
  by_cases hb : b ∈ fs
  · exact u.slot b ob q n hb hx
  · exact ⟨ob.slots, u.keep b ob q n hb hx⟩
theorem Un.trans (a : Un fs ex H H1 h h1) (b : Un fs ex H1 H2 h1 h2) : Un fs ex H H2 h h2 where
  keep := fun c ob q n hc hx => b.keep c ob (a.keep c ob q n hc hx) (a.free c ob q n hx) hc hx
  slot := fun c ob q n hc hx => by
    obtain ⟨sl, e1⟩ := a.slot c ob q n hc hx
    obtain ⟨sl', e2⟩ := b.slot c _ e1 (a.free c ob q n hx) hc hx
    exact ⟨sl', e2⟩
  free := fun c ob q n hx => by
    obtain ⟨o', e1⟩ := a.there c ob q hx
    exact b.free c o' e1 (a.free c ob q n hx) hx
  there := fun c ob q hx => by
    obtain ⟨o', e1⟩ := a.there c ob q hx
    exact b.there c o' e1 hx
  tups := fun c xs q => b.tups c xs (a.tups c xs q)
  frzs := fun c ob xs q => b.frzs c ob xs (a.frzs c ob xs q)
  tbls := fun c ps q => by
    obtain ⟨m1, e1⟩ := a.tbls c ps q
    obtain ⟨m2, e2⟩ := b.tbls c _ e1
    exact ⟨m1 ++ m2, by rw [e2, Array.append_assoc]⟩
theorem Un.kept (k : ∀ b u, h.get? b = some u → h'.get? b = some u) : Un fs ex H H h h' :=
  ⟨fun b ob q _ _ _ => k b ob q, fun b ob q _ _ _ => ⟨ob.slots, k b ob q⟩, fun _ _ _ n _ => n, fun b ob q _ => ⟨ob, k b ob q⟩, fun _ _ q => q, fun _ _ _ q => q, fun _ ps q => ⟨#[], by rw [q]; simp⟩⟩
theorem Un.refl : Un fs ex H H h h := Un.kept fun _ _ q => q
theorem Un.laid (k : ∀ b u, h.get? b = some u → h'.get? b = some u) (hp : h.objs.size ≤ a) (hn : H a = none) : Un fs ex H (upd H a o) h h' where
  keep := fun b u q _ _ _ => k b u q
  slot := fun b u q _ _ _ => ⟨u.slots, k b u q⟩
  free := fun b u q n _ => by rw [upd_ne (Nat.ne_of_lt (Nat.lt_of_lt_of_le (Heap.lt_size q) hp))]; exact n
  there := fun b u q _ => ⟨u, k b u q⟩
  tups := fun b xs q => by rw [upd_ne (ne_of_none q hn)]; exact q
  frzs := fun b u xs q => by rw [upd_ne (ne_of_none q hn)]; exact q
  tbls := fun b ps q => ⟨#[], by rw [upd_ne (ne_of_none q hn), q]; simp⟩
theorem Un.write (mu : Mut (H x)) (he : e = x ∨ H e = some (.own x)) (k : ∀ b u, b ≠ e → h.get? b = some u → h'.get? b = some u) (heo : ∃ u, h'.get? e = some u) : Un fs ex H (upd H x o) h h' := by
  have hx : ∀ b, H b = none → b ≠ x := fun b n z => by subst z; rw [n] at mu; exact mu
  have hb : ∀ b, H b = none → b ≠ e := fun b n z => by
    subst z
    rcases he with r | r
    · exact hx b n r
    · rw [n] at r; cases r
  have hm : ∀ b u, H b = some u → ¬ Mut (some u) → b ≠ x := fun b u q nm z => by subst z; rw [q] at mu; exact nm mu
  refine ⟨fun b u q n _ _ => k b u (hb b n) q, fun b u q n _ _ => ⟨u.slots, k b u (hb b n) q⟩, fun b u q n _ => by rw [upd_ne (hx b n)]; exact n, fun b u q _ => ?_,
    fun b xs q => by rw [upd_ne (hm b _ q fun z => z)]; exact q, fun b u xs q => by rw [upd_ne (hm b _ q fun z => z)]; exact q, fun b ps q => ⟨#[], by rw [upd_ne (hm b _ q fun z => z), q]; simp⟩⟩
  by_cases hbe : b = e
  · subst hbe; exact heo
  · exact ⟨u, k b u hbe q⟩
theorem Un.mono (u : Un fs ex H H1 h h1) (hs : ∀ b ∈ fs, b ∈ fs') (hx : ∀ b ∈ ex, b ∈ ex') : Un fs' ex' H H1 h h1 :=
  ⟨fun b ob q n hb he => u.keep b ob q n (fun z => hb (hs b z)) fun z => he (hx b z), fun _ _ q n _ he => u.any q n fun z => he (hx _ z), fun b ob q n he => u.free b ob q n fun z => he (hx b z), fun b ob q he => u.there b ob q fun z => he (hx b z), u.tups, u.frzs, u.tbls⟩
end
def trk (h : Heap) (H : Hp) : List Addr := (List.range h.objs.size).filter fun a => (H a).isSome
def hidT (h : Heap) (H : Hp) : Heap := PySem.W.hideAll h (trk h H)
theorem hidT_size (h : Heap) (H : Hp) : (hidT h H).objs.size = h.objs.size := PySem.W.hideAll_size _ _
theorem hidT_get {h : Heap} {H : Hp} {b : Addr} {o : Obj} (e : h.get? b = some o) (n : H b = none) : (hidT h H).get? b = some o :=
  PySem.W.hideAll_get _ e fun hm => by
    have q : (H b).isSome = true := (List.mem_filter.mp hm).2
    rw [n] at q; simp at q
theorem of_hidT {h : Heap} {H : Hp} {b : Addr} {o : Obj} (e : (hidT h H).get? b = some o) : h.get? b = some o ∧ H b = none := by
  have e' : h.get? b = some o := PySem.W.of_hideAll (trk h H) e
  refine ⟨e', ?_⟩
  cases q : H b with
  | none => rfl
  | some x =>
    have hm : b ∈ trk h H := List.mem_filter.mpr ⟨List.mem_range.mpr (Heap.lt_size e'), by simp [q]⟩
    have z : (hidT h H).get? b = none := PySem.W.hideAll_none (trk h H) hm
    rw [z] at e; cases e
def allNews (g h : Heap) (L : Addr) : List (Addr × Obj) := (List.range h.objs.size).filterMap fun a => if a = L ∨ (g.get? a).isSome = true then none else (h.get? a).map fun o => (a, o)
def rest (g h : Heap) (L d : Addr) : List (Addr × Obj) := (allNews g h L).filter fun p => decide (p.1 ≠ d)
end L2
namespace L2
open PySem PySem.Spec PyProof.Rows
structure Mod (K : PySem.W.Frag) (mg : Str → Option Value) (base : Heap) : Prop where
  kin : K.In base
  glob : base.Ns mainGlobals mg
  blt : ∃ mb, base.Ns builtinsNs mb ∧ ∀ x : Str, x ≠ "__name__" → mb x = bootBuiltins x
  nolimit : base.NoLimit
structure Cx where
  prog : Program
  w : World
  K : PySem.W.Frag
  mg : Str → Option Value
  base : Heap
  A : Around
  N : List Str
  s_0 : Shared
  H_0 : Hp
  env : Env
  outer : List Env
  stack : List Env
  ex : List Addr
  fn : Str → Bool
  calm : Bool
  pn : List (Addr × Obj)
  xe : Value → Shared → Prop
def frs (l : List Env) : List Addr := l.filterMap (·.frame)
abbrev Cx.fs (X : Cx) : List Addr := frs X.outer
def Vis (sc : Scope) (x : Str) : Prop := sc.names.lookup x = some .local ∨ sc.names.lookup x = some .cell ∨ sc.names.lookup x = some .free
def Loc (sc : Scope) (x : Str) : Prop := sc.names.lookup x = some .local ∨ sc.names.lookup x = some .cell
def Look (env : Env) (h : Heap) (m : Str → Option Value) (x : Str) (u : Value) : Prop :=
  (env.kindOf x = some .local ∧ m x = some u) ∨ ((env.kindOf x = some .cell ∨ env.kindOf x = some .free) ∧ ∃ c, env.cells.lookup x = some c ∧ h.IsCell c (some u))
structure Cx.Ok (X : Cx) : Prop where
  mod : Mod X.K X.mg X.base
  kind : X.env.scope.kind = .function
  glob : X.env.globals = mainGlobals
  blt : X.env.builtins = builtinsNs
  above : X.s_0.heap.objs.size ≤ X.env.locals
  inj : ∀ x y c, X.env.cells.lookup x = some c → X.env.cells.lookup y = some c → x = y
  has : ∀ x, (X.env.kindOf x = some .cell ∨ X.env.kindOf x = some .free) → ∃ c, X.env.cells.lookup x = some c
  cab : ∀ x c, X.fn x = true → X.env.cells.lookup x = some c → X.s_0.heap.objs.size ≤ c
  hd : X.calm = true → X.A.handled = none
  frames : X.A.frames = some X.stack
  stk : X.stack = X.outer ∨ (X.stack = X.env :: X.outer ∧ X.env.frame = some X.env.locals)
  exf : ∀ b ∈ X.ex, b ≠ X.env.locals ∧ ∀ x c, X.env.cells.lookup x = some c → c ≠ b
  bs : ∀ b o, X.base.get? b = some o → X.s_0.heap.get? b = some o ∧ X.H_0 b = none
  bsz : X.base.objs.size ≤ X.s_0.heap.objs.size
  noex : ∀ b o, X.base.get? b = some o → b ∉ X.ex
  exfs : ∀ b ∈ X.ex, b ∉ X.fs
  funs : X.s_0.heap.FunFrames X.base X.outer
  frf : ∀ b ∈ X.fs, X.H_0 b = none
structure Inv (X : Cx) (pins : List (Addr × Obj)) (σ : List (Option V)) (H : Hp) (s : Shared) : Prop where
  ok : X.Ok
  os : s.os = X.s_0.os
  bare : AllBare s.gens
  base : Un X.fs X.ex X.H_0 H X.s_0.heap s.heap
  loc : ∃ m, s.heap.Ns X.env.locals m ∧ ∀ (i : Nat) (x : Str) (v : V), X.N[i]? = some x → σ[i]? = some (some v) → Vis X.env.scope x → ∃ u, RelV v u ∧ Look X.env s.heap m x u
  cell : ∀ x c, X.env.cells.lookup x = some c → ∃ v, s.heap.IsCell c v
  free : H X.env.locals = none
  freeC : ∀ x c, X.env.cells.lookup x = some c → H c = none
  pin : ∀ p ∈ X.pn ++ pins, s.heap.get? p.1 = some p.2 ∧ H p.1 = none ∧ p.1 ≠ X.env.locals ∧ p.1 ∉ X.fs ∧ ∀ v, p.2.data ≠ .cell v
  hok : HOk X.prog X.w H s.heap
  len : σ.length = X.N.length
section
variable {X : Cx} {pins : List (Addr × Obj)} {σ : List (Option V)} {H H' : Hp} {s : Shared} {h' : Heap}
theorem Cx.Ok.nofr (ok : X.Ok) {b : Addr} {o : Obj} (e : X.base.get? b = some o) : b ∉ X.fs := fun hb => by
  have := (ok.funs.mem hb).1
  rw [e] at this; cases this
theorem Inv.bs (I : Inv X pins σ H s) : ∀ b o, X.base.get? b = some o → s.heap.get? b = some o ∧ H b = none := fun b o e =>
  ⟨I.base.keep b o (I.ok.bs b o e).1 (I.ok.bs b o e).2 (I.ok.nofr e) (I.ok.noex b o e), I.base.free b o (I.ok.bs b o e).1 (I.ok.bs b o e).2 (I.ok.noex b o e)⟩
theorem Inv.bk (I : Inv X pins σ H s) : ∀ b o, X.base.get? b = some o → s.heap.get? b = some o := fun b o e => (I.bs b o e).1
theorem Inv.mod (I : Inv X pins σ H s) : Mod X.K X.mg X.base := I.ok.mod
theorem Inv.kIn (I : Inv X pins σ H s) : X.K.In s.heap := I.ok.mod.kin.keeps I.bk
theorem Inv.nolimit (I : Inv X pins σ H s) : s.heap.NoLimit := I.ok.mod.nolimit.keeps I.bk
theorem Inv.fr (I : Inv X pins σ H s) : ∃ m, Fr X.base X.env.locals s.heap m :=
  let ⟨m, hn, _⟩ := I.loc
  ⟨m, hn, I.bk, Nat.le_trans I.ok.bsz I.ok.above⟩
theorem Inv.lt (I : Inv X pins σ H s) : X.env.locals < s.heap.objs.size := let ⟨_, hn, _⟩ := I.loc; hn.lt
theorem Inv.sz (I : Inv X pins σ H s) : X.s_0.heap.objs.size ≤ s.heap.objs.size := Nat.le_trans I.ok.above (Nat.le_of_lt I.lt)
theorem Inv.nofs (I : Inv X pins σ H s) {a : Addr} (h : s.heap.objs.size ≤ a) : a ∉ X.fs := fun hb => by
  obtain ⟨_, o, ho, _⟩ := I.ok.funs.mem hb
  exact absurd (Nat.lt_of_lt_of_le (Heap.lt_size ho) (Nat.le_trans I.sz h)) (Nat.lt_irrefl _)
theorem Inv.cne (I : Inv X pins σ H s) : ∀ x c, X.env.cells.lookup x = some c → c ≠ X.env.locals := fun x c e z => by
  obtain ⟨v, o, ho, hd⟩ := I.cell x c e
  obtain ⟨m, ⟨o', es, ep, ho', hd', _⟩, _⟩ := I.loc
  rw [z, ho'] at ho; cases ho; rw [hd'] at hd; cases hd
theorem Inv.funs (I : Inv X pins σ H s) : s.heap.FunFrames X.base X.outer := by
  have all : ∀ (l : List Env), (∀ b ∈ frs l, b ∈ X.fs) → X.s_0.heap.FunFrames X.base l → s.heap.FunFrames X.base l := by
    intro l
    induction l with
    | nil => intro _ _; trivial
    | cons env r ih =>
      intro hs hl
      obtain ⟨hk, ⟨L, o, hf, hn, ho, hd⟩, hr⟩ := hl
      have hL : L ∈ X.fs := hs L (by unfold frs; rw [List.filterMap_cons, hf]; exact List.mem_cons_self)
      obtain ⟨sl, e⟩ := I.base.slot L o ho (I.ok.frf L hL) hL fun z => I.ok.exfs L z hL
      exact ⟨hk, ⟨L, _, hf, hn, e, hd⟩, ih (fun b hb => hs b (by unfold frs; rw [List.filterMap_cons, hf]; exact List.mem_cons_of_mem _ hb)) hr⟩
  exact all X.outer (fun _ hb => hb) I.ok.funs
theorem Inv.stack (I : Inv X pins σ H s) : s.heap.FunFrames X.base X.stack := by
  rcases I.ok.stk with e | ⟨e, hf⟩
  · rw [e]; exact I.funs
  · rw [e]
    obtain ⟨m, hn, _⟩ := I.loc
    refine .cons (by rw [I.ok.kind]; decide) hf hn ?_ I.funs
    exact Heap.get?_none_of_le (Nat.le_trans I.ok.bsz I.ok.above)
theorem Inv.stkSub (I : Inv X pins σ H s) : ∀ b ∈ frs X.stack, b ∈ X.env.locals :: X.fs := fun b hb => by
  rcases I.ok.stk with e | ⟨e, hf⟩
  · rw [e] at hb; exact List.mem_cons_of_mem _ hb
  · rw [e] at hb
    unfold frs at hb
    rw [List.filterMap_cons, hf] at hb
    exact hb
theorem Inv.stkFree (I : Inv X pins σ H s) : ∀ b ∈ frs X.stack, H b = none := fun b hb => by
  rcases List.mem_cons.mp (I.stkSub b hb) with e | hb
  · rw [e]; exact I.free
  · obtain ⟨_, o, ho, _⟩ := I.ok.funs.mem hb
    exact I.base.free b o ho (I.ok.frf b hb) fun z => I.ok.exfs b z hb
theorem Inv.step {g' : Array GenState} {t' : Nat} {d' : Drawn} {ch : List Addr} (I : Inv X pins σ H s)
    (hch : ∀ b ∈ ch, (b ∈ X.ex ∨ X.s_0.heap.objs.size ≤ b) ∧ b ≠ X.env.locals ∧ (∀ x c, X.env.cells.lookup x = some c → c ≠ b) ∧ ∀ p ∈ X.pn ++ pins, p.1 ≠ b)
    (keep : ∀ b o, b ≠ X.env.locals → b ∉ X.fs → b ∉ ch → s.heap.get? b = some o → H b = none → h'.get? b = some o)
    (slot : ∀ b o, b ≠ X.env.locals → b ∈ X.fs → b ∉ ch → s.heap.get? b = some o → H b = none → ∃ sl, h'.get? b = some { o with slots := sl }) (free : ∀ b o, b ∉ ch → s.heap.get? b = some o → H b = none → H' b = none)
    (there : ∀ b o, b ∉ ch → s.heap.get? b = some o → ∃ o', h'.get? b = some o')
    (tups : ∀ b xs, H b = some (.tup xs) → H' b = some (.tup xs)) (frzs : ∀ b o u, H b = some (.frz o u) → H' b = some (.frz o u)) (tbls : ∀ b ps, H b = some (.tbl ps) → ∃ more, H' b = some (.tbl (ps ++ more)))
    (ns : ∀ m, s.heap.Ns X.env.locals m → h'.Ns X.env.locals m) (hok : HOk X.prog X.w H' h') (hg : AllBare g') :
    Inv X pins σ H' { s with heap := h', gens := g', drawn := d', toks := t' } := by
  have neL : ∀ b o, X.s_0.heap.get? b = some o → b ≠ X.env.locals := fun b o e => Nat.ne_of_lt (Nat.lt_of_lt_of_le (Heap.lt_size e) I.ok.above)
  have neC : ∀ b o, X.s_0.heap.get? b = some o → b ∉ X.ex → b ∉ ch := fun b o e hx hb => by
    rcases (hch b hb).1 with z | z
    · exact hx z
    · exact absurd (Nat.lt_of_lt_of_le (Heap.lt_size e) z) (Nat.lt_irrefl _)
  have cellK : ∀ x c, X.env.cells.lookup x = some c → ∀ v, s.heap.IsCell c v → h'.IsCell c v := fun x c e v ⟨o, ho, hd⟩ => by
    have nch : c ∉ ch := fun z => (hch c z).2.2.1 x c e rfl
    by_cases hc : c ∈ X.fs
    · obtain ⟨sl, q⟩ := slot c o (I.cne x c e) hc nch ho (I.freeC x c e)
      exact ⟨_, q, hd⟩
    · exact ⟨o, keep c o (I.cne x c e) hc nch ho (I.freeC x c e), hd⟩
  refine ⟨I.ok, I.os, hg, ⟨fun b o e n hb hx => ?_, fun b o e n hb hx => ?_, fun b o e n hx => ?_, fun b o e hx => ?_, fun b xs e => tups b xs (I.base.tups b xs e), fun b o xs e => frzs b o xs (I.base.frzs b o xs e), fun b ps e => ?_⟩, ?_, fun x c e => ?_, ?_, fun x c e => ?_, fun p hp => ?_, hok, I.len⟩
  · exact keep b o (neL b o e) hb (neC b o e hx) (I.base.keep b o e n hb hx) (I.base.free b o e n hx)
  · obtain ⟨sl, e1⟩ := I.base.slot b o e n hb hx
    obtain ⟨sl', e2⟩ := slot b _ (neL b o e) hb (neC b o e hx) e1 (I.base.free b o e n hx)
    exact ⟨sl', e2⟩
  · obtain ⟨o', e1⟩ := I.base.there b o e hx
    exact free b o' (neC b o e hx) e1 (I.base.free b o e n hx)
  · obtain ⟨o', e1⟩ := I.base.there b o e hx
    exact there b o' (neC b o e hx) e1
  · obtain ⟨m1, e1⟩ := I.base.tbls b ps e
    obtain ⟨m2, e2⟩ := tbls b _ e1
    exact ⟨m1 ++ m2, by rw [e2, Array.append_assoc]⟩
  · obtain ⟨m, hn, hl⟩ := I.loc
    refine ⟨m, ns m hn, fun i x v e1 e2 e3 => ?_⟩
    obtain ⟨u, r, l⟩ := hl i x v e1 e2 e3
    refine ⟨u, r, ?_⟩
    rcases l with l | ⟨k, c, e, z⟩
    · exact .inl l
    · exact .inr ⟨k, c, e, cellK x c e _ z⟩
  · obtain ⟨v, z⟩ := I.cell x c e
    exact ⟨v, cellK x c e v z⟩
  · obtain ⟨m, ⟨o, _, _, ho, _⟩, _⟩ := I.loc
    exact free _ o (fun z => (hch _ z).2.1 rfl) ho I.free
  · obtain ⟨v, o, ho, hd⟩ := I.cell x c e
    exact free c o (fun z => (hch c z).2.2.1 x c e rfl) ho (I.freeC x c e)
  · obtain ⟨e, n, ne, nf, d⟩ := I.pin p hp
    have nch : p.1 ∉ ch := fun z => (hch p.1 z).2.2.2 p hp rfl
    exact ⟨keep p.1 p.2 ne nf nch e n, free p.1 p.2 nch e n, ne, nf, d⟩
theorem Inv.un {t' : Nat} (I : Inv X pins σ H s) (u : Un X.fs [] H H' s.heap h') (hok : HOk X.prog X.w H' h') : Inv X pins σ H' { s with heap := h', toks := t' } := by
  obtain ⟨m, ⟨o, es, ep, ho, r⟩, _⟩ := id I.loc
  obtain ⟨sl, hL⟩ := u.any ho I.free (by simp)
  exact I.step (g' := s.gens) (d' := s.drawn) (ch := []) (fun _ z => nomatch z) (fun b o _ hb _ e n => u.keep b o e n hb (by simp)) (fun b o _ hb _ e n => u.slot b o e n hb (by simp)) (fun b o _ e n => u.free b o e n (by simp)) (fun b o _ e => u.there b o e (by simp)) u.tups u.frzs u.tbls (fun m' hm => by
    obtain ⟨o', es', ep', ho', r'⟩ := hm
    rw [ho] at ho'; cases ho'
    exact ⟨_, es', ep', hL, r'⟩) hok I.bare
theorem Inv.call {g' : Array GenState} {t' : Nat} {d' : Drawn} {ch : List Addr} (I : Inv X pins σ H s) (u : Un (frs X.stack) ch H H' s.heap h') (hok : HOk X.prog X.w H' h') (hg : AllBare g')
    (hch : ∀ b ∈ ch, (b ∈ X.ex ∨ X.s_0.heap.objs.size ≤ b) ∧ b ≠ X.env.locals ∧ (∀ x c, X.env.cells.lookup x = some c → c ≠ b) ∧ ∀ p ∈ X.pn ++ pins, p.1 ≠ b) :
    Inv X pins σ H' { s with heap := h', gens := g', drawn := d', toks := t' } := by
  obtain ⟨m, ⟨o, es, ep, ho, r⟩, _⟩ := id I.loc
  obtain ⟨sl, hL⟩ := u.any ho I.free fun z => (hch _ z).2.1 rfl
  exact I.step (ch := ch) hch (fun b o hL hb hc e n => u.keep b o e n (fun z => (List.mem_cons.mp (I.stkSub b z)).elim hL hb) hc) (fun b o _ _ hc e n => u.any e n hc) (fun b o hc e n => u.free b o e n hc) (fun b o hc e => u.there b o e hc) u.tups u.frzs u.tbls (fun m' hm => by
    obtain ⟨o', es', ep', ho', r'⟩ := hm
    rw [ho] at ho'; cases ho'
    exact ⟨_, es', ep', hL, r'⟩) hok hg
theorem Inv.turned {t' : Nat} {it : Addr} (I : Inv X pins σ H s) (k : ∀ b o, b ≠ it → s.heap.get? b = some o → h'.get? b = some o) (hn : H it = none) (hL : it ≠ X.env.locals)
    (h1 : it ∈ X.ex ∨ X.s_0.heap.objs.size ≤ it) (h2 : ∀ x c, X.env.cells.lookup x = some c → c ≠ it) (h3 : ∀ p ∈ X.pn ++ pins, p.1 ≠ it) : Inv X pins σ H { s with heap := h', toks := t' } := by
  have nit : ∀ b u, H b = some u → b ≠ it := fun b u e z => by rw [z, hn] at e; cases e
  refine I.step (g' := s.gens) (d' := s.drawn) (ch := [it]) (fun b hb => ?_) (fun b o _ _ hc e _ => k b o (fun z => hc (by simp [z])) e) (fun b o _ _ hc e _ => ⟨o.slots, k b o (fun z => hc (by simp [z])) e⟩) (fun _ _ _ _ n => n)
    (fun b o hc e => ⟨o, k b o (fun z => hc (by simp [z])) e⟩) (fun _ _ e => e) (fun _ _ _ e => e) (fun b ps e => ⟨#[], by rw [e]; simp⟩) (fun m hm => ?_) (fun b u e => ?_) I.bare
  · have e : b = it := by simpa using hb
    subst e
    exact ⟨h1, hL, h2, h3⟩
  · obtain ⟨o, es, ep, ho, r⟩ := hm
    exact ⟨o, es, ep, k _ o (Ne.symm hL) ho, r⟩
  · refine (I.hok b u e).stay (fun c v hc q => k c v ?_ q) (fun _ q => q) fun _ _ q => q
    rcases hc with z | z
    · rw [z]; exact nit b u e
    · exact nit c _ z
theorem Inv.tok (I : Inv X pins σ H s) (t : Nat) : Inv X pins σ H { s with toks := t } := I.un (h' := s.heap) (t' := t) Un.refl I.hok
theorem Inv.kept {t' : Nat} (I : Inv X pins σ H s) (k : ∀ b u, s.heap.get? b = some u → h'.get? b = some u) : Inv X pins σ H { s with heap := h', toks := t' } := I.un (Un.kept k) (I.hok.kept k)
theorem Inv.laid {a : Addr} {o : HO} {t' : Nat} (I : Inv X pins σ H s) (k : ∀ b u, s.heap.get? b = some u → h'.get? b = some u) (hp : s.heap.objs.size ≤ a) (new : ObjOk X.prog X.w (upd H a o) h' a o) :
    Inv X pins σ (upd H a o) { s with heap := h', toks := t' } := I.un (Un.laid k hp (I.hok.fresh hp)) (I.hok.laid k hp new)
theorem Inv.write {x e : Addr} {o : HO} {t' : Nat} (I : Inv X pins σ H s) (mu : Mut (H x)) (he : e = x ∨ H e = some (.own x)) (k : ∀ b u, b ≠ e → s.heap.get? b = some u → h'.get? b = some u) (heo : ∃ u, h'.get? e = some u)
    (new : ObjOk X.prog X.w (upd H x o) h' x o) : Inv X pins σ (upd H x o) { s with heap := h', toks := t' } := I.un (Un.write mu he k heo) (I.hok.write mu he k heo new)
theorem Inv.pins_of {pins' : List (Addr × Obj)} (I : Inv X pins σ H s) (h : ∀ p ∈ pins', s.heap.get? p.1 = some p.2 ∧ H p.1 = none ∧ p.1 ≠ X.env.locals ∧ p.1 ∉ X.fs ∧ ∀ v, p.2.data ≠ .cell v) : Inv X pins' σ H s :=
  ⟨I.ok, I.os, I.bare, I.base, I.loc, I.cell, I.free, I.freeC, fun p hp => (List.mem_append.mp hp).elim (fun z => I.pin p (List.mem_append_left _ z)) (h p), I.hok, I.len⟩
theorem nodup_ix {N : List Str} (hN : N.Nodup) {i j : Nat} {x : Str} (a : N[i]? = some x) (b : N[j]? = some x) : i = j := by
  obtain ⟨h1, e1⟩ := List.getElem?_eq_some_iff.mp a
  obtain ⟨h2, e2⟩ := List.getElem?_eq_some_iff.mp b
  exact (List.getElem_inj hN).mp (e1.trans e2.symm)
theorem store_ok2 {M : Model} {A : Around} {E : Value → Shared → Prop} {i : Nat} {x : Str} {v : V} {u : Value} {Q : Unit → Shared → Prop} (I : Inv X pins σ H s) (hN : X.N.Nodup) (hi : X.N[i]? = some x) (hx : Loc X.env.scope x) (r : RelV v u)
    (h : ∀ s', Inv X pins (σ.set i (some v)) H s' → (∃ a, Heap.SameBut a s.heap s'.heap ∧ (a = X.env.locals ∨ X.env.cells.lookup x = some a)) → Q () s') (hf : X.fn x = true ∨ X.env.scope.names.lookup x = some .local := by first | exact .inl rfl | exact .inr rfl | assumption) : wpAny M A (storeName X.env x u) Q E s := by
  obtain ⟨m, hn, hl⟩ := id I.loc
  have hcls : (X.env.scope.kind == .class || (X.env.scope.kind == .module && X.env.locals != X.env.globals)) = false := by rw [I.ok.kind]; rfl
  have hiσ : i < σ.length := by rw [I.len]; exact (List.getElem?_eq_some_iff.mp hi).1
  have cne := I.cne
  have tracked : ∀ {a : Addr} {h' : Heap}, (∃ o, s.heap.get? a = some o ∧ H a = none) → Heap.SameBut a s.heap h' → HOk X.prog X.w H h' := fun {a h'} ha hs b ob e => by
    obtain ⟨_, _, hfree⟩ := ha
    refine (I.hok b ob e).stay (fun c w' hc q => (hs.2 c ?_).trans q) (fun _ q => q) fun _ _ q => q
    rintro rfl
    rcases hc with rfl | hc
    · rw [hfree] at e; cases e
    · rw [hfree] at hc; cases hc
  rcases hx with hk | hk
  · refine wpAny_storeName_local hk hn (fun h' hn' hs => ?_) hcls
    obtain ⟨oL, _, _, hoL, _⟩ := id hn
    refine h _ ⟨I.ok, I.os, I.bare, ⟨fun b o e n hb hx => ?_, fun b o e n hb hx => ?_, I.base.free, fun b o e hx => ?_, I.base.tups, I.base.frzs, I.base.tbls⟩, ⟨_, hn', fun j y v' e1 e2 e3 => ?_⟩, fun y c e => ?_, I.free, I.freeC, fun p hp => ?_, tracked ⟨oL, hoL, I.free⟩ hs, by simpa using I.len⟩ ⟨_, hs, .inl rfl⟩
    · exact (hs.2 b (Nat.ne_of_lt (Nat.lt_of_lt_of_le (Heap.lt_size e) I.ok.above))).trans (I.base.keep b o e n hb hx)
    · obtain ⟨sl, e1⟩ := I.base.slot b o e n hb hx
      exact ⟨sl, (hs.2 b (Nat.ne_of_lt (Nat.lt_of_lt_of_le (Heap.lt_size e) I.ok.above))).trans e1⟩
    · obtain ⟨o', e1⟩ := I.base.there b o e hx
      exact ⟨o', (hs.2 b (Nat.ne_of_lt (Nat.lt_of_lt_of_le (Heap.lt_size e) I.ok.above))).trans e1⟩
    · by_cases hj : j = i
      · subst hj
        rw [hi] at e1; cases e1
        rw [List.getElem?_set_self hiσ] at e2
        cases e2
        exact ⟨u, r, .inl ⟨hk, by simp⟩⟩
      · rw [List.getElem?_set_ne (Ne.symm hj)] at e2
        obtain ⟨u', r', q⟩ := hl j y v' e1 e2 e3
        refine ⟨u', r', ?_⟩
        rcases q with ⟨k, e⟩ | ⟨k, c, e, z⟩
        · refine .inl ⟨k, ?_⟩
          have : y ≠ x := fun e => hj (nodup_ix hN e1 (e ▸ hi))
          simp [this, e]
        · exact .inr ⟨k, c, e, z.sameBut hs (cne y c e)⟩
    · obtain ⟨w', z⟩ := I.cell y c e
      exact ⟨w', z.sameBut hs (cne y c e)⟩
    · obtain ⟨e, n, ne, nf, d⟩ := I.pin p hp
      exact ⟨(hs.2 p.1 ne).trans e, n, ne, nf, d⟩
  · have hfn : X.fn x = true := by
      rcases hf with z | z
      · exact z
      · rw [z] at hk; cases hk
    obtain ⟨c, hc⟩ := I.ok.has x (.inl hk)
    obtain ⟨w', z⟩ := I.cell x c hc
    refine wpAny_storeName_cell I.ok.kind hk hc z (fun h' hc' hs => ?_)
    obtain ⟨oc, hoc, hocd⟩ := id z
    refine h { s with heap := h' } ⟨I.ok, I.os, I.bare, ⟨fun b o e n hb hx => ?_, fun b o e n hb hx => ?_, I.base.free, fun b o e hx => ?_, I.base.tups, I.base.frzs, I.base.tbls⟩, ⟨m, hn.sameBut hs (Ne.symm (cne x c hc)), fun j y v' e1 e2 e3 => ?_⟩, fun y c' e => ?_, I.free, I.freeC, fun p hp => ?_, tracked ⟨oc, hoc, I.freeC x c hc⟩ hs, by simpa using I.len⟩ ⟨c, hs, .inr hc⟩
    · exact (hs.2 b (Nat.ne_of_lt (Nat.lt_of_lt_of_le (Heap.lt_size e) (I.ok.cab x c hfn hc)))).trans (I.base.keep b o e n hb hx)
    · obtain ⟨sl, e1⟩ := I.base.slot b o e n hb hx
      exact ⟨sl, (hs.2 b (Nat.ne_of_lt (Nat.lt_of_lt_of_le (Heap.lt_size e) (I.ok.cab x c hfn hc)))).trans e1⟩
    · obtain ⟨o', e1⟩ := I.base.there b o e hx
      exact ⟨o', (hs.2 b (Nat.ne_of_lt (Nat.lt_of_lt_of_le (Heap.lt_size e) (I.ok.cab x c hfn hc)))).trans e1⟩
    · by_cases hj : j = i
      · subst hj
        rw [hi] at e1; cases e1
        rw [List.getElem?_set_self hiσ] at e2
        cases e2
        exact ⟨u, r, .inr ⟨.inl hk, c, hc, hc'⟩⟩
      · rw [List.getElem?_set_ne (Ne.symm hj)] at e2
        obtain ⟨u', r', q⟩ := hl j y v' e1 e2 e3
        refine ⟨u', r', ?_⟩
        rcases q with q | ⟨k, c', e, z'⟩
        · exact .inl q
        · refine .inr ⟨k, c', e, z'.sameBut hs ?_⟩
          rintro rfl
          exact hj (nodup_ix hN e1 (I.ok.inj _ _ _ e hc ▸ hi))
    · by_cases hcc : c' = c
      · subst hcc; exact ⟨_, hc'⟩
      · obtain ⟨w2, z2⟩ := I.cell y c' e
        exact ⟨w2, z2.sameBut hs hcc⟩
    · obtain ⟨e, n, ne, nf, d⟩ := I.pin p hp
      refine ⟨(hs.2 p.1 ?_).trans e, n, ne, nf, d⟩
      intro q
      rw [q, hoc] at e
      have q' : oc = p.2 := Option.some.inj e
      exact d w' (by rw [← q']; exact hocd)
theorem store_ok {M : Model} {A : Around} {E : Value → Shared → Prop} {i : Nat} {x : Str} {v : V} {u : Value} {Q : Unit → Shared → Prop} (I : Inv X pins σ H s) (hN : X.N.Nodup) (hi : X.N[i]? = some x) (hx : Loc X.env.scope x) (r : RelV v u)
    (h : ∀ s', Inv X pins (σ.set i (some v)) H s' → Q () s') (hf : X.fn x = true ∨ X.env.scope.names.lookup x = some .local := by first | exact .inl rfl | exact .inr rfl | assumption) : wpAny M A (storeName X.env x u) Q E s :=
  store_ok2 I hN hi hx r (fun s' I' _ => h s' I') hf
end
abbrev XK := Value → Option Addr → Hp → Prop
abbrev St := List (Option V)
abbrev VK := V → Hp → Prop
abbrev TE := St → Hp → VK → Prop
abbrev TT := St → Hp → (Bool → Hp → Prop) → Prop
abbrev TA := St → Hp → (List V → Hp → Prop) → Prop
structure Ends where
  nx : St → Hp → Prop
  rt : VK
  bk : St → Hp → Prop := fun _ _ => False
  ct : St → Hp → Prop := fun _ _ => False
abbrev TS := Ends → St → Hp → Prop
def EP (X : Cx) (pins : List (Addr × Obj)) (σ : St) (Q : VK) (u : Value) (s' : Shared) : Prop := ∃ v H', Inv X pins σ H' s' ∧ RelV v u ∧ Q v H'
def TP (X : Cx) (pins : List (Addr × Obj)) (σ : St) (Q : Bool → Hp → Prop) (b : Bool) (s' : Shared) : Prop := ∃ H', Inv X pins σ H' s' ∧ Q b H'
def AP (X : Cx) (pins : List (Addr × Obj)) (σ : St) (Q : List V → Hp → Prop) (us : List Value) (s' : Shared) : Prop := ∃ vs H', Inv X pins σ H' s' ∧ Vals vs us ∧ Q vs H'
def SP (X : Cx) (pins : List (Addr × Obj)) (D : Ends) (f : Flow) (s' : Shared) : Prop :=
  match f with
  | .next => ∃ σ' H', Inv X pins σ' H' s' ∧ D.nx σ' H'
  | .brk => ∃ σ' H', Inv X pins σ' H' s' ∧ D.bk σ' H'
  | .cont => ∃ σ' H', Inv X pins σ' H' s' ∧ D.ct σ' H'
  | .ret u => ∃ v σ' H', Inv X pins σ' H' s' ∧ RelV v u ∧ D.rt v H'
def PE (X : Cx) (e : Expr) (t : TE) : Prop :=
  ∀ (pins : List (Addr × Obj)) (s : Shared) (σ : St) (H : Hp) (Q : VK), Inv X pins σ H s → t σ H Q → wpAny (model X.prog X.w) X.A (eval e X.env) (EP X pins σ Q) X.xe s
def PT (X : Cx) (e : Expr) (t : TT) : Prop :=
  ∀ (pins : List (Addr × Obj)) (s : Shared) (σ : St) (H : Hp) (Q : Bool → Hp → Prop), Inv X pins σ H s → t σ H Q → wpAny (model X.prog X.w) X.A (isTrue e X.env (eval e X.env)) (TP X pins σ Q) X.xe s
def PW (X : Cx) (e : Expr) (t : TT) : Prop :=
  ∀ (whole : Sem Value) (pins : List (Addr × Obj)) (s : Shared) (σ : St) (H : Hp) (Q : Bool → Hp → Prop), Inv X pins σ H s → t σ H Q → wpAny (model X.prog X.w) X.A (isTrue e X.env whole) (TP X pins σ Q) X.xe s
theorem PW.pt {X : Cx} {e : Expr} {t : TT} (h : PW X e t) : PT X e t := h _
def PA (X : Cx) (es : List Expr) (t : TA) : Prop :=
  ∀ (pos : Pos) (pins : List (Addr × Obj)) (s : Shared) (σ : St) (H : Hp) (Q : List V → Hp → Prop), Inv X pins σ H s → t σ H Q → wpAny (model X.prog X.w) X.A (spliced (backTo pos (starEach es X.env))) (AP X pins σ Q) X.xe s
def PS (X : Cx) (st : Stmt) (t : TS) : Prop :=
  ∀ (pins : List (Addr × Obj)) (s : Shared) (σ : St) (H : Hp) (D : Ends), Inv X pins σ H s → t D σ H → wpAny (model X.prog X.w) X.A (exec st X.env) (SP X pins D) X.xe s
def PSs (X : Cx) (st : List Stmt) (t : TS) : Prop :=
  ∀ (pins : List (Addr × Obj)) (s : Shared) (σ : St) (H : Hp) (D : Ends), Inv X pins σ H s → t D σ H → wpAny (model X.prog X.w) X.A (execs st X.env) (SP X pins D) X.xe s
theorem thn {α : Type} {t : Sem α} {Q Q' : α → Shared → Prop} {M : Model} {A : Around} {E : Value → Shared → Prop} {s : Shared} (h : wpAny M A t Q E s) (hQ : ∀ a s, Q a s → Q' a s) : wpAny M A t Q' E s := wpAny_mono h hQ fun _ _ x => x
end L2
namespace L2
open PySem PySem.Spec PyProof.Rows
section
variable {X : Cx}
theorem bin {a b : Expr} {ta tb : TE} (ha : PE X a ta) (hb : PE X b tb) {pins : List (Addr × Obj)} {s : Shared} {σ : St} {H : Hp} {R : V → V → Hp → Prop} (I : Inv X pins σ H s) (h : ta σ H fun x H1 => tb σ H1 fun y H2 => R x y H2)
    {α : Type} {Q : α → Shared → Prop} {f : Value → Value → Sem α}
    (hf : ∀ v u s2 x y H2, Inv X pins σ H2 s2 → RelV x v → RelV y u → R x y H2 → wpAny (model X.prog X.w) X.A (f v u) Q X.xe s2) :
    wpAny (model X.prog X.w) X.A (eval a X.env) (fun v s₁ => wpAny (model X.prog X.w) X.A (eval b X.env) (fun u s₂ => wpAny (model X.prog X.w) X.A (f v u) Q X.xe s₂) X.xe s₁) X.xe s := by
  refine thn (ha pins s σ H _ I h) fun v s1 ⟨x, H1, I1, r1, q1⟩ => ?_
  refine thn (hb pins s1 σ H1 _ I1 q1) fun u s2 ⟨y, H2, I2, r2, q2⟩ => ?_
  exact hf v u s2 x y H2 I2 r1 r2 q2
def tVar (i : Nat) : TE := fun σ H Q => ∃ v, σ[i]? = some (some v) ∧ Q v H
def tC (v : V) : TE := fun _ H Q => Q v H
theorem pe_var {i : Nat} {x : Str} {pos : Pos} (hN : X.N[i]? = some x) (hv : Vis X.env.scope x) (hd : (x == ("__debug__" : Str)) = false := by decide) (hcd : (x == ("__classdict__" : Str)) = false := by decide) : PE X (.Name x pos) (tVar i) := by
  intro pins s σ H Q I h
  obtain ⟨v, e, h⟩ := h
  obtain ⟨m, hn, hl⟩ := I.loc
  obtain ⟨u, r, l⟩ := hl i x v hN e hv
  have fin : EP X pins σ Q u s := ⟨v, H, I, r, h⟩
  rcases l with ⟨hk, hm⟩ | ⟨hk, c, hc, hcell⟩
  · exact wpAny_Name (wpAny_loadName_local I.ok.kind hk hn hm fin) hd
  · rcases hk with hk | hk
    · exact wpAny_Name (wpAny_loadName_cell I.ok.kind hk hc hcell fin) hd
    · exact wpAny_Name (wpAny_loadName_free I.ok.kind hk hc hcell fin hcd) hd
theorem pe_int {i j pos} : PE X (.Constant (.int i) j pos) (tC (.int i)) := fun _ _ _ H _ I h => wpAny_Constant_int ⟨.int i, H, I.tok _, ⟨_, rfl⟩, h⟩
theorem pe_bl {b j pos} : PE X (.Constant (.bool b) j pos) (tC (.bl b)) := fun _ _ _ H _ I h => Constant_bool ⟨.bl b, H, I, rfl, h⟩
theorem pe_non {j pos} : PE X (.Constant .none j pos) (tC .non) := fun _ _ _ H _ I h => Constant_none ⟨.non, H, I, rfl, h⟩
def Gl (X : Cx) (x : Str) : Prop := X.env.kindOf x = some .globalImplicit
theorem ld_glob {E : Value → Shared → Prop} {pins : List (Addr × Obj)} {s : Shared} {σ : St} {H : Hp} {x : Str} {u : Value} {pos : Pos} {Q : Value → Shared → Prop} (I : Inv X pins σ H s) (hg : Gl X x) (hm : X.mg x = some u) (h : Q u s)
    (hd : (x == ("__debug__" : Str)) = false := by decide) : wpAny (model X.prog X.w) X.A (eval (.Name x pos) X.env) Q E s :=
  Calls.Name_function_global I.ok.kind hg (Calls.loadGlobal_global (by rw [I.ok.glob]; exact I.mod.glob.keeps I.bk) hm h) hd
theorem ld_blt {E : Value → Shared → Prop} {pins : List (Addr × Obj)} {s : Shared} {σ : St} {H : Hp} {x : Str} {u : Value} {pos : Pos} {Q : Value → Shared → Prop} (I : Inv X pins σ H s) (hg : Gl X x) (hm : X.mg x = none) (hv : bootBuiltins x = some u) (h : Q u s)
    (hn : x ≠ "__name__" := by decide) (hd : (x == ("__debug__" : Str)) = false := by decide) : wpAny (model X.prog X.w) X.A (eval (.Name x pos) X.env) Q E s := by
  obtain ⟨mb, h1, h2⟩ := I.mod.blt
  exact Calls.Name_function_global I.ok.kind hg (Calls.loadGlobal_builtin (by rw [I.ok.glob]; exact I.mod.glob.keeps I.bk) hm (by rw [I.ok.blt]; exact h1.keeps I.bk) ((h2 x hn).trans hv) h) hd
theorem pe_glob {x : Str} {v : V} {u : Value} {pos : Pos} (hg : Gl X x) (hm : X.mg x = some u) (r : RelV v u) (hd : (x == ("__debug__" : Str)) = false := by decide) : PE X (.Name x pos) (tC v) :=
  fun _ _ _ H _ I h => ld_glob I hg hm ⟨v, H, I, r, h⟩ hd
def t2I (ta tb : TE) (k : Int → Int → Hp → Prop) : St → Hp → Prop := fun σ H => ta σ H fun x H1 => tb σ H1 fun y H2 => ∃ i j, x = .int i ∧ y = .int j ∧ k i j H2
variable {a b : Expr} {ta tb : TE} {pos : Pos}
def PC (X : Cx) (op : CmpOp) (a b : Expr) (t : TE) : Prop :=
  ∀ (pins : List (Addr × Obj)) (s : Shared) (σ : St) (H : Hp) (Q : VK), Inv X pins σ H s → t σ H Q →
    wpAny (model X.prog X.w) X.A (eval a X.env) (fun v s₁ => wpAny (model X.prog X.w) X.A (eval b X.env) (fun u s₂ => wpAny (model X.prog X.w) X.A (compareOp op v u) (EP X pins σ Q) X.xe s₂) X.xe s₁) X.xe s
theorem nobehind (b : Expr) {op : CmpOp} (h : op ≠ .In) (h2 : op ≠ .NotIn) : behindInMarks op b = false := by
  have e1 : (op == CmpOp.In) = false := by cases op <;> first | rfl | exact absurd rfl h
  have e2 : (op == CmpOp.NotIn) = false := by cases op <;> first | rfl | exact absurd rfl h2
  cases b <;> simp [behindInMarks, e1, e2]
def tCmp (p : Int → Int → Bool) (ta tb : TE) : TE := fun σ H Q => t2I ta tb (fun i j H2 => Q (.bl (p i j)) H2) σ H
abbrev tLt : TE → TE → TE := tCmp fun i j => decide (i < j)
abbrev tLe : TE → TE → TE := tCmp fun i j => decide (i ≤ j)
abbrev tGt : TE → TE → TE := tCmp fun i j => decide (j < i)
abbrev tGe : TE → TE → TE := tCmp fun i j => decide (j ≤ i)
abbrev tEqI : TE → TE → TE := tCmp fun i j => decide (i = j)
abbrev tNeI : TE → TE → TE := tCmp fun i j => !decide (i = j)
theorem pc_int {op : CmpOp} {p : Int → Int → Bool} (ha : PE X a ta) (hb : PE X b tb)
    (rule : ∀ (i j : Int) (t u : Tok) (Q : Value → Shared → Prop) (s : Shared), Q (.bool (p i j)) s → wpAny (model X.prog X.w) X.A (compareOp op (.int i t) (.int j u)) Q X.xe s) : PC X op a b (tCmp p ta tb) := by
  intro pins s σ H Q I h
  refine bin ha hb I h fun v u s2 x y H2 I2 rx ry q => ?_
  obtain ⟨i, j, rfl, rfl, q⟩ := q
  obtain ⟨t, rfl⟩ := rx
  obtain ⟨t', rfl⟩ := ry
  exact rule i j t t' _ s2 ⟨.bl _, H2, I2, rfl, q⟩
theorem pc_lt (ha : PE X a ta) (hb : PE X b tb) : PC X .Lt a b (tLt ta tb) := pc_int ha hb fun _ _ _ _ _ _ h => lt_int h
theorem pc_le (ha : PE X a ta) (hb : PE X b tb) : PC X .LtE a b (tLe ta tb) := pc_int ha hb fun _ _ _ _ _ _ h => le_int h
theorem pc_gt (ha : PE X a ta) (hb : PE X b tb) : PC X .Gt a b (tGt ta tb) := pc_int ha hb fun _ _ _ _ _ _ h => gt_int h
theorem pc_ge (ha : PE X a ta) (hb : PE X b tb) : PC X .GtE a b (tGe ta tb) := pc_int ha hb fun _ _ _ _ _ _ h => ge_int h
theorem pc_eqI (ha : PE X a ta) (hb : PE X b tb) : PC X .Eq a b (tEqI ta tb) := pc_int ha hb fun _ _ _ _ _ _ h => eq_int (by rw [Bool.beq_eq_decide_eq]; exact h)
theorem pc_neI (ha : PE X a ta) (hb : PE X b tb) : PC X .NotEq a b (tNeI ta tb) := pc_int ha hb fun _ _ _ _ _ _ h => ne_int (by rw [bne, Bool.beq_eq_decide_eq]; exact h)
def tIsN (ta : TE) : TE := fun σ H Q => ta σ H fun x H1 => Q (.bl (decide (x = .non))) H1
theorem RelV.none_iff {x : V} {v : Value} (r : RelV x v) : (v == Value.none) = decide (x = .non) := by
  cases x with
  | non => cases r; rfl
  | bl _ => cases r; rfl
  | int _ => obtain ⟨t, rfl⟩ := r; rfl
  | str _ => obtain ⟨t, rfl⟩ := r; rfl
  | byt _ => obtain ⟨t, rfl⟩ := r; rfl
  | flt _ => obtain ⟨t, rfl⟩ := r; rfl
  | ref _ => cases r; rfl
  | ty _ => cases r; rfl
theorem pc_isN {j pos'} (ha : PE X a ta) : PC X .Is a (.Constant .none j pos') (tIsN ta) := by
  intro pins s σ H Q I h
  refine thn (ha pins s σ H _ I h) fun v s1 ⟨x, H1, I1, r1, q1⟩ => ?_
  exact Constant_none (is_none_gen ⟨.bl _, H1, I1, by rw [r1.none_iff]; rfl, q1⟩)
def tB (t : TE) : TT := fun σ H Q => t σ H fun x H1 => ∃ c, x = .bl c ∧ Q c H1
theorem pe_cmp {op : CmpOp} {t : TE} (h : PC X op a b t) (h1 : behindInMarks op b = false := by first | exact nobehind _ (by decide) (by decide) | rfl) : PE X (.Compare a [op] [b] pos) t := fun pins s σ H Q I hw => wpAny_Compare1 (h pins s σ H Q I hw) h1
theorem pt_cmp {op : CmpOp} {t : TE} (h : PC X op a b t) (h1 : behindInMarks op b = false := by first | exact nobehind _ (by decide) (by decide) | rfl) : PT X (.Compare a [op] [b] pos) (tB t) := by
  intro pins s σ H Q I hw
  refine wpAny_isTrue_Compare1 (thn (h pins s σ H _ I hw) fun v s1 h1 => thn h1 fun u s2 h2 => thn h2 fun c s3 ⟨x, H1, I1, r1, q1⟩ => ?_) h1
  obtain ⟨d, rfl, q⟩ := q1
  cases r1
  exact wpAny_truthy_bool ⟨H1, I1, q⟩
theorem pt_val {e : Expr} {t : TE} (h : PE X e t) (he : ∀ whole, isTrue e X.env whole = (do let v ← whole; standAt e.pos; holding [v] (truthy v)) := by intro _; rfl) : PT X e (tB t) := by
  intro pins s σ H Q I hw
  refine isTrue_plain (thn (h pins s σ H _ I hw) fun v s1 ⟨x, H1, I1, r1, q1⟩ => ?_) (he _)
  obtain ⟨d, rfl, q⟩ := q1
  cases r1
  exact wpAny_truthy_bool ⟨H1, I1, q⟩
variable {tA tB' : TT} {rest : List Expr}
def tAnd (t u : TT) : TT := fun σ H Q => t σ H fun c H1 => if c = true then u σ H1 Q else Q false H1
def tOr (t u : TT) : TT := fun σ H Q => t σ H fun c H1 => if c = true then Q true H1 else u σ H1 Q
def tNot (t : TT) : TT := fun σ H Q => t σ H fun c H1 => Q (!c) H1
theorem pw_and1 (ha : PT X a tA) : PW X (.BoolOp .And [a] pos) tA := by
  intro wh pins s σ H Q I h
  refine isTrue_and (thn (ha pins s σ H Q I h) fun c s1 e => ?_)
  cases c with
  | true => exact isTrue_and_nil e
  | false => exact e
theorem pw_or1 (ha : PT X a tA) : PW X (.BoolOp .Or [a] pos) tA := by
  intro wh pins s σ H Q I h
  refine isTrue_or (thn (ha pins s σ H Q I h) fun c s1 e => ?_)
  cases c with
  | false => exact isTrue_or_nil e
  | true => exact e
theorem pw_and (ha : PT X a tA) (hb : PW X (.BoolOp .And (b :: rest) pos) tB') : PW X (.BoolOp .And (a :: b :: rest) pos) (tAnd tA tB') := by
  intro wh pins s σ H Q I h
  refine isTrue_and (thn (ha pins s σ H _ I h) fun c s1 ⟨H1, I1, q1⟩ => ?_)
  cases c with
  | true => exact hb wh pins s1 σ H1 Q I1 q1
  | false => exact ⟨H1, I1, q1⟩
theorem pw_or (ha : PT X a tA) (hb : PW X (.BoolOp .Or (b :: rest) pos) tB') : PW X (.BoolOp .Or (a :: b :: rest) pos) (tOr tA tB') := by
  intro wh pins s σ H Q I h
  refine isTrue_or (thn (ha pins s σ H _ I h) fun c s1 ⟨H1, I1, q1⟩ => ?_)
  cases c with
  | true => exact ⟨H1, I1, q1⟩
  | false => exact hb wh pins s1 σ H1 Q I1 q1
theorem pt_not (ha : PT X a tA) : PT X (.UnaryOp .Not a pos) (tNot tA) := by
  intro pins s σ H Q I h
  exact isTrue_not (ha pins s σ H (fun c H1 => Q (!c) H1) I h)
def tOrV (ta tb : TE) : TE := fun σ H Q => ta σ H fun x H1 => ∃ c, x = .bl c ∧ if c = true then Q (.bl true) H1 else tb σ H1 Q
theorem pe_one {op} {t : TE} (h : PE X a t) : PE X (.BoolOp op [a] pos) t := fun pins s σ H Q I hw => BoolOp_one (h pins s σ H Q I hw)
theorem pe_or (ha : PE X a ta) (hb : PE X (.BoolOp .Or (b :: rest) pos) tb) : PE X (.BoolOp .Or (a :: b :: rest) pos) (tOrV ta tb) := by
  intro pins s σ H Q I h
  refine BoolOp_or (thn (ha pins s σ H _ I h) fun v s1 ⟨x, H1, I1, r1, q1⟩ => ?_)
  obtain ⟨c, rfl, q1⟩ := q1
  cases r1
  refine wpAny_truthy_bool ?_
  cases c with
  | false => exact hb pins s1 σ H1 Q I1 q1
  | true => exact ⟨.bl true, H1, I1, rfl, q1⟩
def tIf (t : TT) (ta tb : TE) : TE := fun σ H Q => t σ H fun c H1 => if c = true then ta σ H1 Q else tb σ H1 Q
theorem pe_ifExp {c : Expr} (hc : PT X c tA) (ha : PE X a ta) (hb : PE X b tb) : PE X (.IfExp c a b pos) (tIf tA ta tb) := by
  intro pins s σ H Q I h
  refine wpAny_IfExp (thn (hc pins s σ H _ I h) fun d s1 ⟨H1, I1, q1⟩ => ?_)
  cases d with
  | true => exact ha pins s1 σ H1 Q I1 q1
  | false => exact hb pins s1 σ H1 Q I1 q1
end
end L2
namespace L2
open PySem PySem.Spec PyProof.Rows
def SqL (K : PySem.W.Frag) (H : Hp) (a : Addr) (xs : List V) : Prop :=
  Rd H a (.lst xs) ∨
    ∃ (o : Obj) (its : Array Value) (n : Nat), K.lookup a = some o ∧ o.cls = .type "list" ∧ o.dict = none ∧ o.data = .seq its n ∧ its.size ≤ sizeLine ∧ Vals xs its.toList
def SqT (K : PySem.W.Frag) (H : Hp) (a : Addr) (xs : List V) : Prop :=
  Rd H a (.tup xs) ∨
    ∃ (o : Obj) (its : Array Value) (n : Nat), K.lookup a = some o ∧ o.cls = .type "tuple" ∧ o.data = .seq its n ∧ its.size ≤ sizeLine ∧ Vals xs its.toList
def absV : Value → Option V
  | .none => some .non
  | .bool b => some (.bl b)
  | .int i _ => some (.int i)
  | .str x _ => some (.str x)
  | .bytes b _ => some (.byt b)
  | .float b _ => some (.flt b)
  | .ref a => some (.ref a)
  | .type n => some (.ty n)
  | _ => none
theorem RelV.abs {x : V} {u : Value} (r : RelV x u) : absV u = some x := by
  cases x with
  | non => cases r; rfl
  | bl _ => cases r; rfl
  | int _ => obtain ⟨t, rfl⟩ := r; rfl
  | str _ => obtain ⟨t, rfl⟩ := r; rfl
  | byt _ => obtain ⟨t, rfl⟩ := r; rfl
  | flt _ => obtain ⟨t, rfl⟩ := r; rfl
  | ref _ => cases r; rfl
  | ty _ => cases r; rfl
theorem RelV.inj {x y : V} {u : Value} (r : RelV x u) (q : RelV y u) : x = y := Option.some.inj (r.abs.symm.trans q.abs)
theorem Vals.inj : ∀ {xs ys : List V} {us : List Value}, Vals xs us → Vals ys us → xs = ys
  | _, _, _, .nil, .nil => rfl
  | _, _, _, .cons r t, .cons r' t' => by rw [r.inj r', Vals.inj t t']
section
variable {X : Cx} {pins : List (Addr × Obj)} {σ : St} {H : Hp} {s : Shared} {a : Addr} {xs ys : List V}
theorem SqL.of {K : PySem.W.Frag} (h : H a = some (.lst xs)) : SqL K H a xs := .inl (.inl h)
theorem SqT.of {K : PySem.W.Frag} (h : H a = some (.tup xs)) : SqT K H a xs := .inl (.inl h)
theorem Inv.list (I : Inv X pins σ H s) (h : SqL X.K H a xs) : ∃ its : List Value, Vals xs its ∧ PlainL s.heap a its.toArray ∧ xs.length ≤ sizeLine := by
  rcases h with h | ⟨o, its, n, hk, hc, hd, hs, hz, r⟩
  · obtain ⟨z, its, n, r, e⟩ := h.ok I.hok
    exact ⟨its, r, ⟨_, n, e, rfl, rfl, rfl⟩, z⟩
  · refine ⟨its.toList, r, ⟨o, n, I.kIn a o hk, hc, hd, by simpa using hs⟩, ?_⟩
    have e := r.length
    simp only [Array.length_toList] at e
    omega
theorem Inv.tuple (I : Inv X pins σ H s) (h : SqT X.K H a xs) : ∃ its : List Value, Vals xs its ∧ IsTup s.heap a its.toArray ∧ xs.length ≤ sizeLine := by
  rcases h with h | ⟨o, its, n, hk, hc, hs, hz, r⟩
  · obtain ⟨z, its, r, p⟩ := h.ok I.hok
    exact ⟨its, r, p, z⟩
  · refine ⟨its.toList, r, ⟨o, I.kIn a o hk, hc, n, by simpa using hs⟩, ?_⟩
    have e := r.length
    simp only [Array.length_toList] at e
    omega
theorem Inv.list_inj (I : Inv X pins σ H s) (h : SqL X.K H a xs) (h' : SqL X.K H a ys) : xs = ys := by
  obtain ⟨its, r, ⟨o, n, e, _, _, d⟩, _⟩ := I.list h
  obtain ⟨its', r', ⟨o', n', e', _, _, d'⟩, _⟩ := I.list h'
  rw [e] at e'; cases e'
  rw [d] at d'
  injection d' with d1 _
  have : its = its' := by simpa using congrArg Array.toList d1
  subst this
  exact r.inj r'
end
abbrev Cx.wish (X : Cx) (E : Value → Shared → Prop) : Cx := { X with xe := E }
abbrev Cx.nox (X : Cx) : Cx := X.wish fun _ _ => False
theorem Cx.Ok.wish {X : Cx} (ok : X.Ok) (E : Value → Shared → Prop) : (X.wish E).Ok :=
  ⟨ok.mod, ok.kind, ok.glob, ok.blt, ok.above, ok.inj, ok.has, ok.cab, ok.hd, ok.frames, ok.stk, ok.exf, ok.bs, ok.bsz, ok.noex, ok.exfs, ok.funs, ok.frf⟩
theorem Cx.Ok.unwish {X : Cx} {E : Value → Shared → Prop} (ok : (X.wish E).Ok) : X.Ok :=
  ⟨ok.mod, ok.kind, ok.glob, ok.blt, ok.above, ok.inj, ok.has, ok.cab, ok.hd, ok.frames, ok.stk, ok.exf, ok.bs, ok.bsz, ok.noex, ok.exfs, ok.funs, ok.frf⟩
section
variable {X : Cx} {pins : List (Addr × Obj)} {σ : St} {H : Hp} {s : Shared} {E : Value → Shared → Prop}
theorem Inv.wish (I : Inv X pins σ H s) (E : Value → Shared → Prop) : Inv (X.wish E) pins σ H s := ⟨I.ok.wish E, I.os, I.bare, I.base, I.loc, I.cell, I.free, I.freeC, I.pin, I.hok, I.len⟩
theorem Inv.unwish (I : Inv (X.wish E) pins σ H s) : Inv X pins σ H s := ⟨I.ok.unwish, I.os, I.bare, I.base, I.loc, I.cell, I.free, I.freeC, I.pin, I.hok, I.len⟩
theorem SP.unwish {D : Ends} {f : Flow} {s' : Shared} (h : SP (X.wish E) pins D f s') : SP X pins D f s' := by
  cases f with
  | next => obtain ⟨σ', H', I, q⟩ := h; exact ⟨σ', H', I.unwish, q⟩
  | brk => obtain ⟨σ', H', I, q⟩ := h; exact ⟨σ', H', I.unwish, q⟩
  | cont => obtain ⟨σ', H', I, q⟩ := h; exact ⟨σ', H', I.unwish, q⟩
  | ret u => obtain ⟨v, σ', H', I, r, q⟩ := h; exact ⟨v, σ', H', I.unwish, r, q⟩
theorem PE.nox {e : Expr} {t : TE} (h : PE X.nox e t) : PE X e t := fun pins s σ H Q I hw =>
  wpAny_mono (h pins s σ H Q (I.wish _) hw) (fun _ _ ⟨v, H', I', r, q⟩ => ⟨v, H', I'.unwish, r, q⟩) fun _ _ z => False.elim z
theorem PT.nox {e : Expr} {t : TT} (h : PT X.nox e t) : PT X e t := fun pins s σ H Q I hw =>
  wpAny_mono (h pins s σ H Q (I.wish _) hw) (fun _ _ ⟨H', I', q⟩ => ⟨H', I'.unwish, q⟩) fun _ _ z => False.elim z
theorem PSs.nox {st : List Stmt} {t : TS} (h : PSs X.nox st t) : PSs X st t := fun pins s σ H D I hw =>
  wpAny_mono (h pins s σ H D (I.wish _) hw) (fun _ _ q => q.unwish) fun _ _ z => False.elim z
end
section
variable {X : Cx} {st : Stmt} {rest : List Stmt} {t u : TS} {e : Expr} {te : TE} {pos : Pos}
def tNext : TS := fun D σ H => D.nx σ H
def tSeq (t u : TS) : TS := fun D σ H => t { D with nx := u D } σ H
theorem pss_nil : PSs X [] tNext := fun _ _ σ H _ I h => wpAny_execs_nil ⟨σ, H, I, h⟩
theorem pss_cons (h1 : PS X st t) (h2 : PSs X rest u) : PSs X (st :: rest) (tSeq t u) := by
  intro pins s σ H D I h
  refine wpAny_execs_cons (thn (h1 pins s σ H { D with nx := u D } I h) fun f s1 q => ?_)
  cases f with
  | next =>
    obtain ⟨σ', H', I', q⟩ := q
    exact h2 pins s1 σ' H' D I' q
  | ret v => exact q
  | brk => exact q
  | cont => exact q
theorem pss_one (h1 : PS X st t) : PSs X [st] t := by
  intro pins s σ H D I h
  refine wpAny_execs_cons (thn (h1 pins s σ H D I h) fun f s1 q => ?_)
  cases f with
  | next => exact wpAny_execs_nil q
  | ret v => exact q
  | brk => exact q
  | cont => exact q
theorem Inv.quiet {pins : List (Addr × Obj)} {σ : St} {H : Hp} {s : Shared} (I : Inv X pins σ H s) : interactive X.env = false := by simp [interactive, I.ok.kind]
def tDrop (te : TE) : TS := fun D σ H => te σ H fun _ H1 => D.nx σ H1
theorem ps_expr (he : PE X e te) (hs : swapsWith e none pos.line X.env = pure false := by rfl) : PS X (.Expr e pos) (tDrop te) := by
  intro pins s σ H D I h
  exact wpAny_Expr_any (thn (he pins s σ H _ I h) fun v s1 ⟨x, H1, I1, r1, q1⟩ => ⟨σ, H1, I1, q1⟩) I.quiet hs
def tRet (te : TE) : TS := fun D σ H => te σ H D.rt
theorem ps_ret (he : PE X e te) : PS X (.Return (some e) pos) (tRet te) := by
  intro pins s σ H D I h
  exact wpAny_Return_some (thn (he pins s σ H _ I h) fun v s1 ⟨x, H1, I1, r1, q1⟩ => ⟨x, σ, H1, I1, r1, q1⟩)
def tIfS (c : TT) (t u : TS) : TS := fun D σ H => c σ H fun b H1 => if b = true then t D σ H1 else u D σ H1
theorem ps_if {c : Expr} {a b : List Stmt} {tc : TT} (hc : PT X c tc) (ha : PSs X a t) (hb : PSs X b u) : PS X (.If c a b pos) (tIfS tc t u) := by
  intro pins s σ H D I h
  refine wpAny_If (thn (hc pins s σ H _ I h) fun d s1 ⟨H1, I1, q1⟩ => ?_)
  cases d with
  | true => exact ha pins s1 σ H1 D I1 q1
  | false => exact hb pins s1 σ H1 D I1 q1
def tNever : TS := fun _ _ _ => False
theorem pss_never {sts : List Stmt} : PSs X sts tNever := fun _ _ _ _ _ _ h => h.elim
end
abbrev TG := V → St → Hp → (St → Hp → Prop) → Prop
def PG (X : Cx) (target : Expr) (t : TG) : Prop :=
  ∀ (pins : List (Addr × Obj)) (s : Shared) (σ : St) (H : Hp) (v : V) (u : Value) (Q : St → Hp → Prop), Inv X pins σ H s → RelV v u → t v σ H Q →
    wpAny (model X.prog X.w) X.A (assign target X.env u) (fun _ s' => ∃ σ' H', Inv X pins σ' H' s' ∧ Q σ' H') X.xe s
section
variable {X : Cx} {pos : Pos}
def gName (i : Nat) : TG := fun v σ H Q => Q (σ.set i (some v)) H
theorem pg_name {i : Nat} {x : Str} (hN : X.N.Nodup) (hi : X.N[i]? = some x) (hx : Loc X.env.scope x) (hf : X.fn x = true ∨ X.env.scope.names.lookup x = some .local := by first | exact .inl rfl | exact .inr rfl | assumption) : PG X (.Name x pos) (gName i) := by
  intro pins s σ H v u Q I r h
  exact wpAny_assign_Name (store_ok I hN hi hx r (fun s' I' => ⟨_, H, I', h⟩) hf)
def tAsg (te : TE) (g : TG) : TS := fun D σ H => te σ H fun x H1 => g x σ H1 D.nx
theorem ps_set {i : Nat} {x : Str} {e : Expr} {te : TE} {pos' : Pos} (hN : X.N.Nodup) (hi : X.N[i]? = some x) (hx : Loc X.env.scope x) (he : PE X e te) (hs : swapsWith e (some (.Name x pos')) pos.line X.env = pure false := by rfl) (hf : X.fn x = true ∨ X.env.scope.names.lookup x = some .local := by first | exact .inl rfl | exact .inr rfl | assumption) :
    PS X (.Assign [.Name x pos'] e pos) (tAsg te (gName i)) := by
  intro pins s σ H D I h
  refine wpAny_Assign_Name (thn (he pins s σ H _ I h) fun v s1 ⟨y, H1, I1, r1, q1⟩ => ?_) hs
  exact store_ok I1 hN hi hx r1 (fun s2 I2 => ⟨_, H1, I2, q1⟩) hf
end
section
variable {X : Cx} {pos : Pos}
def tWhile (c : TT) (tb : TS) : TS := fun D σ H => ∃ W : Nat → St → Hp → Prop, (∃ m, W m σ H) ∧ ∀ m σ H, W m σ H →
  c σ H fun b H1 => if b = true then ∃ N : St → Hp → Prop, (∀ σ' H', N σ' H' → ∃ m', m' < m ∧ W m' σ' H') ∧ tb { D with nx := N, ct := N, bk := D.nx } σ H1 else D.nx σ H1
theorem ps_while {c : Expr} {body : List Stmt} {tc : TT} {tb : TS} (hp : PassesOwn (model X.prog X.w) X.A X.env X.xe) (hc : PT X c tc) (hb : PSs X body tb) : PS X (.While c body [] pos) (tWhile tc tb) := by
  intro pins s σ H D I h
  obtain ⟨W, ⟨m0, w0⟩, turn⟩ := h
  refine wpAny_While (codeAny_whileLoop (fun n s' => ∃ σ' H', Inv X pins σ' H' s' ∧ W n σ' H') ?_ m0 ⟨σ, H, I, w0⟩)
  rintro n s1 ⟨σ1, H1, I1, w1⟩
  refine wpAny_passesOwn hp (thn (hc pins s1 σ1 H1 _ I1 (turn n σ1 H1 w1)) fun b s2 ⟨H2, I2, q2⟩ => ?_)
  cases b with
  | true =>
    obtain ⟨N, hN, q2⟩ := q2
    rw [if_pos rfl]
    refine wpAny_passesOwn hp (thn (hb pins s2 σ1 H2 _ I2 q2) fun f s3 q3 => ?_)
    cases f with
    | next =>
      obtain ⟨σ3, H3, I3, n3⟩ := q3
      obtain ⟨m', hm, w3⟩ := hN σ3 H3 n3
      exact ⟨m', hm, σ3, H3, I3, w3⟩
    | cont =>
      obtain ⟨σ3, H3, I3, n3⟩ := q3
      obtain ⟨m', hm, w3⟩ := hN σ3 H3 n3
      exact ⟨m', hm, σ3, H3, I3, w3⟩
    | brk => exact q3
    | ret v => exact q3
  | false =>
    rw [if_neg Bool.false_ne_true]
    exact wpAny_execs_nil ⟨σ1, H2, I2, q2⟩
end
structure It where
  go : Nat → Hp → Prop
  yld : Nat → Hp → V → Hp → Prop
  stop : Nat → Hp → Prop
def FpOk (X : Cx) (pins : List (Addr × Obj)) (H : Hp) (b : Addr) : Prop :=
  H b = none ∧ b ≠ X.env.locals ∧ b ∉ X.fs ∧ (b ∈ X.ex ∨ X.s_0.heap.objs.size ≤ b) ∧ (∀ x c, X.env.cells.lookup x = some c → c ≠ b) ∧ ∀ p ∈ X.pn ++ pins, p.1 ≠ b
theorem Inv.fpOk {X : Cx} {pins : List (Addr × Obj)} {σ : St} {H H' : Hp} {s : Shared} {b : Addr} (I : Inv X pins σ H s) (hb : s.heap.objs.size ≤ b) (hn : H' b = none) : FpOk X pins H' b := by
  refine ⟨hn, Nat.ne_of_gt (Nat.lt_of_lt_of_le I.lt hb), I.nofs hb, .inr (Nat.le_trans I.sz hb), fun x c e z => ?_, fun p hp z => ?_⟩
  · obtain ⟨v, q⟩ := I.cell x c e
    exact absurd (Nat.lt_of_lt_of_le q.lt (by rw [z]; exact hb)) (Nat.lt_irrefl _)
  · exact absurd (Nat.lt_of_lt_of_le (Heap.lt_size (I.pin p hp).1) (by rw [z]; exact hb)) (Nat.lt_irrefl _)
structure Turn (P : Program) (w : World) (K : PySem.W.Frag) (tg : Expr) (J : It) (fp : List Addr) (it : Addr) (tn : Nat → Heap → Prop) : Prop where
  mem : it ∈ fp
  obj : ∀ i h, tn i h → ∀ b ∈ fp, ∃ o, h.get? b = some o ∧ ∀ v, o.data ≠ .cell v
  keep : ∀ i h h', tn i h → (∀ b ∈ fp, ∀ o, h.get? b = some o → h'.get? b = some o) → tn i h'
  item : ∀ (X : Cx), X.prog = P → X.w = w → X.K = K → X.calm = true → ∀ (i : Nat) (pins : List (Addr × Obj)) (s : Shared) (σ : St) (H : Hp) (E : Value → Shared → Prop), Inv X pins σ H s → (∀ b ∈ fp, FpOk X pins H b) → tn i s.heap → J.go i H →
    wpAny (model P w) X.A (pyNext (.ref it)) (fun r s1 => ∃ u, r = some u ∧
      wpAny (model P w) X.A (letOwnedTupleGo tg (.ref it) u) (fun _ s2 => ∃ x H', Inv X pins σ H' s2 ∧ RelV x u ∧ J.yld i H x H' ∧ tn (i + 1) s2.heap ∧ ∀ b ∈ fp, H' b = none) E s1) E s
  done : ∀ (X : Cx), X.prog = P → X.w = w → X.K = K → X.calm = true → ∀ (i : Nat) (pins : List (Addr × Obj)) (s : Shared) (σ : St) (H : Hp) (E : Value → Shared → Prop), Inv X pins σ H s → (∀ b ∈ fp, FpOk X pins H b) → tn i s.heap → J.stop i H →
    wpAny (model P w) X.A (pyNext (.ref it)) (fun r s1 => r = none ∧ Inv X pins σ H s1) E s
  self : ∀ (A : Around) (i : Nat) (s : Shared) (Q : Value → Shared → Prop) (E : Value → Shared → Prop), tn i s.heap → Q (.ref it) s → wpAny (model P w) A (pyIter (.ref it)) Q E s
abbrev TI := St → Hp → (It → Hp → Prop) → Prop
def PIE (X : Cx) (pins : List (Addr × Obj)) (σ : St) (tg : Expr) (R : It → Hp → Prop) (itv : Value) (s2 : Shared) : Prop :=
  ∃ (it : Addr) (fp : List Addr) (tn : Nat → Heap → Prop) (J : It) (H' : Hp), itv = .ref it ∧ Inv X pins σ H' s2 ∧ Turn X.prog X.w X.K tg J fp it tn ∧ tn 0 s2.heap ∧ (∀ b ∈ fp, FpOk X pins H' b) ∧ R J H'
def PI (X : Cx) (tg iter : Expr) (wi : TI) : Prop :=
  ∀ (pins : List (Addr × Obj)) (s : Shared) (σ : St) (H : Hp) (R : It → Hp → Prop), Inv X pins σ H s → wi σ H R →
    wpAny (model X.prog X.w) X.A (eval iter X.env) (fun v s1 => wpAny (model X.prog X.w) X.A (pyIter v) (PIE X pins σ tg R) X.xe s1) X.xe s
theorem go_of {M : Model} {A : Around} {E : Value → Shared → Prop} {s : Shared} {tg : Expr} {it : Addr} {u : Value} {o : Obj} {n : String} {vs : Array Value} {Q : Unit → Shared → Prop} (ho : s.heap.get? it = some o) (hc : o.cls = .type n) (hd : o.data = .fields vs)
    (hn : ["enumerate", "zip", "dict_itemiterator", "dict_reverseitemiterator", "odict_iterator", "itertools.zip_longest", "itertools.pairwise"].contains n = false) (hQ : Q () s) : wpAny M A (letOwnedTupleGo tg (.ref it) u) Q E s := by
  unfold letOwnedTupleGo
  cases tg <;> first
    | exact wpAny_pure hQ
    | (cases u <;> first
        | exact wpAny_pure hQ
        | (refine wpAny_bind (wpAny_load ho ?_)
           rw [hc, hd]
           show wpAny M A (if (["enumerate", "zip", "dict_itemiterator", "dict_reverseitemiterator", "odict_iterator", "itertools.zip_longest", "itertools.pairwise"].contains n && vs[0]? == some (rawInt _)) = true then _ else _) Q E s
           rw [if_neg (by intro h; rw [hn, Bool.false_and] at h; cases h)]
           exact wpAny_pure hQ))
def Itl (K : PySem.W.Frag) (a : Addr) : It :=
  ⟨fun i H => ∃ xs x, SqL K H a xs ∧ xs[i]? = some x, fun i H x H' => H' = H ∧ ∀ xs, SqL K H a xs → xs[i]? = some x, fun i H => ∃ xs, SqL K H a xs ∧ xs.length ≤ i⟩
def Itr (lo : Int) (n : Nat) : It := ⟨fun i _ => i < n, fun i H x H' => H' = H ∧ x = .int (lo + i), fun i _ => n ≤ i⟩
theorem turn_list {P : Program} {w : World} {K : PySem.W.Frag} {tg : Expr} (a it : Addr) : Turn P w K tg (Itl K a) [it] it (fun i h => h.IsListIter it a i) where
  mem := by simp
  obj := fun i h st b hb => by
    have e : b = it := by simpa using hb
    subst e
    obtain ⟨o, e, c, d⟩ := st
    exact ⟨o, e, fun v z => by rw [d] at z; cases z⟩
  keep := fun i h h' st k => st.at fun o e => k it (by simp) o e
  item := by
    intro X hP hw hK hc i pins s σ H E I hf st hg
    subst hP hw hK
    obtain ⟨xs, x, hq, hx⟩ := hg
    obtain ⟨its, rv, p, hz⟩ := I.list hq
    obtain ⟨u, hu, ru⟩ := rv.get hx
    obtain ⟨f0, f1, f2, f3, f4, f5⟩ := hf it (by simp)
    refine wpAny_pyNext_list_item st p.isList (x := u) (by simpa using hu) fun h' st' sb => ?_
    have I1 : Inv X pins σ H { s with heap := h' } := I.turned (t' := s.toks) (fun b o hb e => (sb.2 b hb).trans e) f0 f1 f3 f4 f5
    obtain ⟨o, e, c, d⟩ := id st'
    exact ⟨u, rfl, go_of (s := { s with heap := h' }) e c d (by decide) ⟨x, H, I1, ru, ⟨rfl, fun ys hy => by rw [I.list_inj hy hq]; exact hx⟩, st', fun b hb => (hf b hb).1⟩⟩
  done := by
    intro X hP hw hK hc i pins s σ H E I hf st hg
    subst hP hw hK
    obtain ⟨xs, hq, hx⟩ := hg
    obtain ⟨its, rv, p, hz⟩ := I.list hq
    obtain ⟨f0, f1, f2, f3, f4, f5⟩ := hf it (by simp)
    have hl := rv.length
    exact wpAny_pyNext_list_end (I.ok.hd hc) st p.isList (by simp; omega) fun h' eb => ⟨rfl, I.turned (t' := s.toks) (fun b o hb e => eb b o hb e) f0 f1 f3 f4 f5⟩
  self := fun _ _ _ _ _ st h => wpAny_pyIter_listiter st h
theorem turn_range {P : Program} {w : World} {K : PySem.W.Frag} {tg : Expr} (it : Addr) (lo : Int) (n : Nat) : Turn P w K tg (Itr lo n) [it] it (fun i h => IsRangeIter h it (lo + (i : Nat) * 1) ((n : Int) - (i : Nat)) 1) where
  mem := by simp
  obj := fun i h st b hb => by
    have e : b = it := by simpa using hb
    subst e
    exact ⟨_, st, fun v z => by
      have z' : Data.fields _ = Data.cell v := z
      cases z'⟩
  keep := fun i h h' st k => k it (by simp) _ st
  item := by
    intro X hP hw hK hc i pins s σ H E I hf st hg
    subst hP hw hK
    obtain ⟨f0, f1, f2, f3, f4, f5⟩ := hf it (by simp)
    have W := Walks.range (prog := X.prog) (w := X.w) (I.ok.hd hc) it lo 1 n
    refine W.item i s _ _ hg st fun v h' tk hv st' kk => ?_
    obtain ⟨t, rfl⟩ := hv
    have I1 : Inv X pins σ H { s with heap := h', toks := tk } := I.turned (fun b o hb e => kk b o (by simpa using hb) e) f0 f1 f3 f4 f5
    refine ⟨_, rfl, go_of (s := { s with heap := h', toks := tk }) (n := "range_iterator") st' rfl rfl (by decide) ⟨.int (lo + i), H, I1, ⟨t, ?_⟩, ⟨rfl, rfl⟩, st', fun b hb => (hf b hb).1⟩⟩
    rw [Int.mul_one]
  done := by
    intro X hP hw hK hc i pins s σ H E I hf st hg
    subst hP hw hK
    obtain ⟨f0, f1, f2, f3, f4, f5⟩ := hf it (by simp)
    exact wpAny_pyNext_range_end (I.ok.hd hc) st (by have : n ≤ i := hg; omega) fun h' eb => ⟨rfl, I.turned (t' := s.toks) (fun b o hb e => eb b o hb e) f0 f1 f3 f4 f5⟩
  self := fun _ _ _ _ _ st h => wpAny_pyIter_rangeiter st h
end L2
namespace L2
open PySem PySem.Spec PyProof.Rows
section
variable {X : Cx} {tg : Expr}
def iList (K : PySem.W.Frag) (tl : TE) : TI := fun σ H R => tl σ H fun x H1 => ∃ a, x = .ref a ∧ (∃ xs, SqL K H1 a xs) ∧ R (Itl K a) H1
theorem pi_list {l : Expr} {tl : TE} (hl : PE X l tl) : PI X tg l (iList X.K tl) := by
  intro pins s σ H R I h
  refine thn (hl pins s σ H _ I h) fun v s1 ⟨x, H1, I1, r1, q1⟩ => ?_
  obtain ⟨a, e, ⟨xs, hq⟩, q⟩ := q1
  subst e
  cases r1
  obtain ⟨its, rv, p, hz⟩ := I1.list hq
  refine wpAny_pyIter_list p.isList ?_
  refine ⟨s1.heap.objs.size, [s1.heap.objs.size], _, _, H1, rfl, I1.kept (t' := s1.toks) fun b o e => Heap.get?_push_of_some _ e, turn_list a _, ⟨_, Heap.get?_push_size _ rfl, rfl, rfl⟩, fun b hb => ?_, q⟩
  have e : b = s1.heap.objs.size := by simpa using hb
  subst e
  exact I1.fpOk (Nat.le_refl _) (I1.hok.fresh (Nat.le_refl _))
theorem range_it {pins : List (Addr × Obj)} {σ : St} {H : Hp} {s : Shared} {R : It → Hp → Prop} {E : Value → Shared → Prop} {lo hi : Int} {t u v : Tok} {tk : Nat} (I : Inv X pins σ H s) (h1 : -(2 ^ 62) ≤ lo) (h2 : lo < 2 ^ 62) (h3 : -(2 ^ 62) ≤ hi) (h4 : hi < 2 ^ 62)
    (q : R (Itr lo (hi - lo).toNat) H) : wpAny (model X.prog X.w) X.A (pyIter (.ref s.heap.objs.size)) (PIE X pins σ tg R) E { s with heap := s.heap.push { cls := .type "range", data := .fields #[.int lo t, .int hi u, .int 1 v] }, toks := tk } := by
  refine wpAny_pyIter_range (IsRange.new ..) (small_one h1 h2 h3 h4) ?_
  have I1 : Inv X pins σ H { s with heap := s.heap.push { cls := .type "range", data := .fields #[.int lo t, .int hi u, .int 1 v] }, toks := tk } := I.kept fun b o e => Heap.get?_push_of_some _ e
  refine ⟨(s.heap.push { cls := .type "range", data := .fields #[.int lo t, .int hi u, .int 1 v] }).objs.size, [(s.heap.push { cls := .type "range", data := .fields #[.int lo t, .int hi u, .int 1 v] }).objs.size], _, _, H, rfl,
    I1.kept (t' := tk) fun b o e => Heap.get?_push_of_some _ e, turn_range _ lo (hi - lo).toNat, ?_, fun b hb => ?_, q⟩
  · have e1 : lo + ((0 : Nat) : Int) * 1 = lo := by simp
    have e2 : (((hi - lo).toNat : Nat) : Int) - ((0 : Nat) : Int) = Builtin.Range.rangeSize lo hi 1 := by rw [rangeSize_one]; split <;> omega
    show IsRangeIter _ _ (lo + ((0 : Nat) : Int) * 1) ((((hi - lo).toNat : Nat) : Int) - ((0 : Nat) : Int)) 1
    rw [e1, e2]
    exact Heap.get?_push_size _ rfl
  · have e : b = (s.heap.push { cls := .type "range", data := .fields #[.int lo t, .int hi u, .int 1 v] }).objs.size := by simpa using hb
    subst e
    exact I1.fpOk (Nat.le_refl _) (I1.hok.fresh (Nat.le_refl _))
def iRng1 (ta : TA) : TI := fun σ H R => ta σ H fun vs H1 => ∃ j : Int, vs = [.int j] ∧ -(2 ^ 62) ≤ j ∧ j < 2 ^ 62 ∧ R (Itr 0 j.toNat) H1
def iRng2 (ta : TA) : TI := fun σ H R => ta σ H fun vs H1 => ∃ i j : Int, vs = [.int i, .int j] ∧ (-(2 ^ 62) ≤ i ∧ i < 2 ^ 62 ∧ -(2 ^ 62) ≤ j ∧ j < 2 ^ 62) ∧ R (Itr i (j - i).toNat) H1
theorem pi_range1 {a : Expr} {ta : TA} {p pos : Pos} (hg : Gl X "range") (hm : X.mg "range" = none) (ha : PA X [a] ta) (hs : starEach [a] X.env = [(false, eval a X.env)] := by rfl) : PI X tg (.Call (.Name "range" p) [a] [] pos) (iRng1 ta) := by
  intro pins s σ H R I h
  refine Call_ (ld_blt I hg hm boot_range (PyProof.Rows.callWith_type1 (thn (ha pos pins s σ H _ I h) fun us s1 ⟨vs, H1, I1, r1, q1⟩ => ?_) hs rfl))
  obtain ⟨j, e, q1, q2, q⟩ := q1
  subst e
  cases r1 with
  | cons r rr =>
    cases rr
    obtain ⟨t, rfl⟩ := r
    exact call_range_1 (range_it I1 (by omega) (by omega) q1 q2 (by simpa using q))
theorem pi_range2 {a b : Expr} {ta : TA} {p pos : Pos} (hg : Gl X "range") (hm : X.mg "range" = none) (ha : PA X [a, b] ta) (hs : starEach [a, b] X.env = [(false, eval a X.env), (false, eval b X.env)] := by rfl) (hs2 : starEach [b] X.env = [(false, eval b X.env)] := by rfl) :
    PI X tg (.Call (.Name "range" p) [a, b] [] pos) (iRng2 ta) := by
  intro pins s σ H R I h
  refine Call_ (ld_blt I hg hm boot_range (PyProof.Rows.callWith_type1 (thn (ha pos pins s σ H _ I h) fun us s1 ⟨vs, H1, I1, r1, q1⟩ => ?_) (by rw [hs, hs2]) (by rw [hs2]; rfl)))
  obtain ⟨i, j, e, ⟨q1, q2, q3, q4⟩, q⟩ := q1
  subst e
  cases r1 with
  | cons r rr =>
    cases rr with
    | cons r' rr =>
      cases rr
      obtain ⟨t, rfl⟩ := r
      obtain ⟨t', rfl⟩ := r'
      exact call_range_2 (range_it I1 q1 q2 q3 q4 q)
def tFor (wi : TI) (g : TG) (tb : TS) : TS := fun D σ H => wi σ H fun J H1 => ∃ W : Nat → Nat → St → Hp → Prop, (∃ m, W 0 m σ H1) ∧ ∀ i m σ H, W i m σ H →
  (J.stop i H ∧ D.nx σ H) ∨ (J.go i H ∧ ∃ N : St → Hp → Prop, (∀ σ' H', N σ' H' → ∃ m', m' < m ∧ W (i + 1) m' σ' H') ∧ ∀ x H', J.yld i H x H' → g x σ H' fun σ2 H2 => tb { D with nx := N, ct := N, bk := D.nx } σ2 H2)
def pinsAt (fp : List Addr) (h : Heap) : List (Addr × Obj) := fp.filterMap fun b => (h.get? b).map fun o => (b, o)
theorem mem_pinsAt {fp : List Addr} {h : Heap} {b : Addr} {o : Obj} (hb : b ∈ fp) (e : h.get? b = some o) : (b, o) ∈ pinsAt fp h := List.mem_filterMap.mpr ⟨b, hb, by rw [e]; rfl⟩
theorem of_pinsAt {fp : List Addr} {h : Heap} {p : Addr × Obj} (hp : p ∈ pinsAt fp h) : p.1 ∈ fp ∧ h.get? p.1 = some p.2 := by
  obtain ⟨b, hb, e⟩ := List.mem_filterMap.mp hp
  cases q : h.get? b with
  | none => rw [q] at e; cases e
  | some o =>
    rw [q] at e
    have e' : (b, o) = p := Option.some.inj e
    subst e'
    exact ⟨hb, q⟩
theorem Inv.pinned {pins : List (Addr × Obj)} {σ : St} {H : Hp} {s : Shared} {fp : List Addr} (I : Inv X pins σ H s) (hf : ∀ b ∈ fp, FpOk X pins H b) (ho : ∀ b ∈ fp, ∃ o, s.heap.get? b = some o ∧ ∀ v, o.data ≠ .cell v) : Inv X (pins ++ pinsAt fp s.heap) σ H s :=
  I.pins_of fun p hp => (List.mem_append.mp hp).elim (fun z => I.pin p (List.mem_append_right _ z)) fun z => by
    obtain ⟨hb, e⟩ := of_pinsAt z
    obtain ⟨f0, f1, f2, _⟩ := hf p.1 hb
    obtain ⟨o, e', d⟩ := ho p.1 hb
    rw [e] at e'; cases e'
    exact ⟨e, f0, f1, f2, d⟩
theorem Inv.unpinned {pins pl : List (Addr × Obj)} {σ : St} {H : Hp} {s : Shared} (I : Inv X (pins ++ pl) σ H s) : Inv X pins σ H s := I.pins_of fun p hp => I.pin p (List.mem_append_right _ (List.mem_append_left _ hp))
theorem ps_for {iter : Expr} {body : List Stmt} {wi : TI} {g : TG} {tb : TS} {pos : Pos} (hp : PassesOwn (model X.prog X.w) X.A X.env X.xe) (hc : X.calm = true) (hi : PI X tg iter wi) (hg : PG X tg g) (hb : PSs X body tb)
    (hs : ∀ x, foldedSetIterable iter X.env x = pure x := by intro _; rfl) : PS X (.For tg iter body [] pos) (tFor wi g tb) := by
  intro pins s σ H D I h
  refine wpAny_For (thn (hi pins s σ H _ I h) fun v s1 h1 => thn h1 fun itv s2 h2 => ?_) hs
  obtain ⟨it, fp, tn, J, H2, e, I2, T, st2, f2, W, ⟨m0, w0⟩, turn⟩ := h2
  subst e
  -- what stays true of the iterator's objects through the loop
  have stat : ∀ {H' : Hp}, (∀ b ∈ fp, H' b = none) → ∀ b ∈ fp, FpOk X pins H' b := fun hn b hb => ⟨hn b hb, (f2 b hb).2⟩
  refine codeAny_forLoop_any (fun n s' => ∃ i σ' H', Inv X pins σ' H' s' ∧ tn i s'.heap ∧ (∀ b ∈ fp, H' b = none) ∧ W i n σ' H') ?_ m0 ⟨0, σ, H2, I2, st2, fun b hb => (f2 b hb).1, w0⟩
  rintro n s3 ⟨i, σ3, H3, I3, st3, fr3, w3⟩
  rcases turn i n σ3 H3 w3 with ⟨stop, qn⟩ | ⟨go, N, hN, step⟩
  · refine wpAny_passesOwn hp (thn (T.done X rfl rfl rfl hc i pins s3 σ3 H3 X.xe I3 (stat fr3) st3 stop) fun r s4 ⟨hr, I4⟩ => ?_)
    subst hr
    exact wpAny_execs_nil ⟨σ3, H3, I4, qn⟩
  · refine wpAny_passesOwn hp (thn (T.item X rfl rfl rfl hc i pins s3 σ3 H3 X.xe I3 (stat fr3) st3 go) fun r s4 ⟨u, hr, h4⟩ => ?_)
    subst hr
    refine wpAny_passesOwn hp (thn h4 fun _ s5 ⟨x, H5, I5, r5, y5, st5, fr5⟩ => ?_)
    have I5' := I5.pinned (stat fr5) (T.obj _ _ st5)
    refine wpAny_passesOwn hp (thn (hg _ s5 σ3 H5 x u _ I5' r5 (step x H5 y5)) fun _ s6 ⟨σ6, H6, I6, q6⟩ => ?_)
    refine wpAny_passesOwn hp (thn (hb _ s6 σ6 H6 _ I6 q6) fun f s7 q7 => ?_)
    have again : ∀ {σ7 : St} {H7 : Hp}, Inv X (pins ++ pinsAt fp s5.heap) σ7 H7 s7 → N σ7 H7 → ∃ m, m < n ∧ ∃ i σ' H', Inv X pins σ' H' s7 ∧ tn i s7.heap ∧ (∀ b ∈ fp, H' b = none) ∧ W i m σ' H' := fun {σ7 H7} I7 n7 => by
      obtain ⟨m', hm, w7⟩ := hN σ7 H7 n7
      refine ⟨m', hm, i + 1, σ7, H7, I7.unpinned, T.keep _ _ _ st5 fun b hb o e => (I7.pin (b, o) (List.mem_append_right _ (List.mem_append_right _ (mem_pinsAt hb e)))).1, fun b hb => ?_, w7⟩
      obtain ⟨o, e, d⟩ := T.obj _ _ st5 b hb
      exact (I7.pin (b, o) (List.mem_append_right _ (List.mem_append_right _ (mem_pinsAt hb e)))).2.1
    cases f with
    | next => obtain ⟨σ7, H7, I7, n7⟩ := q7; exact again I7 n7
    | cont => obtain ⟨σ7, H7, I7, n7⟩ := q7; exact again I7 n7
    | brk => obtain ⟨σ7, H7, I7, q7⟩ := q7; exact ⟨σ7, H7, I7.unpinned, q7⟩
    | ret v => obtain ⟨x7, σ7, H7, I7, r7, q7⟩ := q7; exact ⟨x7, σ7, H7, I7.unpinned, r7, q7⟩
end
theorem for_list {K : PySem.W.Frag} {a : Addr} {xs : List V} {g : TG} {tb : TS} {D : Ends} {σ : St} {H : Hp} (Pv : Nat → St → Hp → Prop) (h0 : Pv 0 σ H) (hl : ∀ i σ H, i ≤ xs.length → Pv i σ H → SqL K H a xs)
    (hs : ∀ i x σ H, xs[i]? = some x → Pv i σ H → g x σ H fun σ2 H2 => tb { D with nx := Pv (i + 1), ct := Pv (i + 1), bk := D.nx } σ2 H2) (hd : ∀ σ H, Pv xs.length σ H → D.nx σ H) :
    ∃ W : Nat → Nat → St → Hp → Prop, (∃ m, W 0 m σ H) ∧ ∀ i m σ H, W i m σ H →
      ((Itl K a).stop i H ∧ D.nx σ H) ∨ ((Itl K a).go i H ∧ ∃ N : St → Hp → Prop, (∀ σ' H', N σ' H' → ∃ m', m' < m ∧ W (i + 1) m' σ' H') ∧ ∀ x H', (Itl K a).yld i H x H' → g x σ H' fun σ2 H2 => tb { D with nx := N, ct := N, bk := D.nx } σ2 H2) := by
  refine ⟨fun i m σ H => m = xs.length - i ∧ i ≤ xs.length ∧ Pv i σ H, ⟨xs.length, by simp, Nat.zero_le _, h0⟩, ?_⟩
  rintro i m σ H ⟨rfl, hi, p⟩
  have q := hl i σ H hi p
  by_cases hlt : i < xs.length
  · refine .inr ⟨⟨xs, xs[i], q, by simp [hlt]⟩, Pv (i + 1), fun σ' H' p' => ⟨xs.length - (i + 1), by omega, rfl, hlt, p'⟩, fun x H' y => ?_⟩
    obtain ⟨e, y⟩ := y
    subst e
    exact hs i x σ _ (y xs q) p
  · have e : i = xs.length := by omega
    subst e
    exact .inl ⟨⟨xs, q, Nat.le_refl _⟩, hd σ H p⟩
theorem for_range {lo : Int} {n : Nat} {g : TG} {tb : TS} {D : Ends} {σ : St} {H : Hp} (Pv : Nat → St → Hp → Prop) (h0 : Pv 0 σ H)
    (hs : ∀ i σ H, i < n → Pv i σ H → g (.int (lo + i)) σ H fun σ2 H2 => tb { D with nx := Pv (i + 1), ct := Pv (i + 1), bk := D.nx } σ2 H2) (hd : ∀ σ H, Pv n σ H → D.nx σ H) :
    ∃ W : Nat → Nat → St → Hp → Prop, (∃ m, W 0 m σ H) ∧ ∀ i m σ H, W i m σ H →
      ((Itr lo n).stop i H ∧ D.nx σ H) ∨ ((Itr lo n).go i H ∧ ∃ N : St → Hp → Prop, (∀ σ' H', N σ' H' → ∃ m', m' < m ∧ W (i + 1) m' σ' H') ∧ ∀ x H', (Itr lo n).yld i H x H' → g x σ H' fun σ2 H2 => tb { D with nx := N, ct := N, bk := D.nx } σ2 H2) := by
  refine ⟨fun i m σ H => m = n - i ∧ i ≤ n ∧ Pv i σ H, ⟨n, by simp, Nat.zero_le _, h0⟩, ?_⟩
  rintro i m σ H ⟨rfl, hi, p⟩
  by_cases hlt : i < n
  · refine .inr ⟨hlt, Pv (i + 1), fun σ' H' p' => ⟨n - (i + 1), by omega, rfl, hlt, p'⟩, fun x H' y => ?_⟩
    obtain ⟨e, y⟩ := y
    subst e y
    exact hs i σ _ hlt p
  · have e : i = n := by omega
    subst e
    exact .inl ⟨Nat.le_refl _, hd σ H p⟩
theorem while_by {c : TT} {tb : TS} {D : Ends} {σ : St} {H : Hp} (Pv : St → Hp → Prop) (μ : St → Hp → Nat) (h0 : Pv σ H)
    (hs : ∀ σ H, Pv σ H → c σ H fun b H1 => if b = true then tb { D with nx := fun σ' H' => Pv σ' H' ∧ μ σ' H' < μ σ H, ct := fun σ' H' => Pv σ' H' ∧ μ σ' H' < μ σ H, bk := D.nx } σ H1 else D.nx σ H1)
    (mono : ∀ σ H Q Q', (∀ b H1, Q b H1 → Q' b H1) → c σ H Q → c σ H Q') : tWhile c tb D σ H := by
  refine ⟨fun m σ H => m = μ σ H ∧ Pv σ H, ⟨_, rfl, h0⟩, ?_⟩
  rintro m σ H ⟨rfl, p⟩
  refine mono σ H _ _ (fun b H1 q => ?_) (hs σ H p)
  cases b with
  | true => exact ⟨_, fun σ' H' ⟨p', l⟩ => ⟨_, l, rfl, p'⟩, q⟩
  | false => exact q
end L2
namespace L2
open PySem PySem.Spec PyProof.Rows
abbrev R2 := V → V → Hp → VK → Prop
def OpR (X : Cx) (f : Value → Value → Sem Value) (r : R2) : Prop :=
  ∀ (pins : List (Addr × Obj)) (s : Shared) (σ : St) (H : Hp) (x y : V) (v u : Value) (Q : VK), Inv X pins σ H s → RelV x v → RelV y u → r x y H Q →
    wpAny (model X.prog X.w) X.A (f v u) (EP X pins σ Q) X.xe s
def UnR (X : Cx) (f : Value → Sem Value) (r : V → Hp → VK → Prop) : Prop :=
  ∀ (pins : List (Addr × Obj)) (s : Shared) (σ : St) (H : Hp) (x : V) (v : Value) (Q : VK), Inv X pins σ H s → RelV x v → r x H Q →
    wpAny (model X.prog X.w) X.A (f v) (EP X pins σ Q) X.xe s
def CallR (X : Cx) (f : Value) (r : List V → Hp → VK → Prop) : Prop :=
  ∀ (pins : List (Addr × Obj)) (s : Shared) (σ : St) (H : Hp) (xs : List V) (us : List Value) (Q : VK), Inv X pins σ H s → Vals xs us → r xs H Q →
    wpAny (model X.prog X.w) X.A (call f us) (EP X pins σ Q) X.xe s
def tOp (r : R2) (ta tb : TE) : TE := fun σ H Q => ta σ H fun x H1 => tb σ H1 fun y H2 => r x y H2 Q
def tUn (r : V → Hp → VK → Prop) (ta : TE) : TE := fun σ H Q => ta σ H fun x H1 => r x H1 Q
def rI (C : Int → Int → Prop) (g : Int → Int → V) : R2 := fun x y H Q => ∃ i j, x = .int i ∧ y = .int j ∧ C i j ∧ Q (g i j) H
def rI0 (g : Int → Int → V) : R2 := fun x y H Q => ∃ i j, x = .int i ∧ y = .int j ∧ Q (g i j) H
def rU (g : Int → V) : V → Hp → VK → Prop := fun x H Q => ∃ i, x = .int i ∧ Q (g i) H
section
variable {X : Cx} {a b c : Expr} {ta tb tc : TE} {pos : Pos}
theorem binT (ha : PE X a ta) (hb : PE X b tb) {pins : List (Addr × Obj)} {s : Shared} {σ : St} {H : Hp} {R : V → V → Hp → Prop} (I : Inv X pins σ H s)
    (h : ta σ H fun x H1 => tb σ H1 fun y H2 => R x y H2) {Q : Value → Shared → Prop} {f : Value → Value → Sem Value}
    (hf : ∀ v u s2 x y H2, Inv X pins σ H2 s2 → RelV x v → RelV y u → R x y H2 → wpAny (model X.prog X.w) X.A (f v u) Q X.xe s2) :
    wpAny (model X.prog X.w) X.A (eval a X.env) (fun v s₁ => wpAny (model X.prog X.w) X.A (eval b X.env) (fun u s₂ => wpAny (model X.prog X.w) X.A (f v u) Q X.xe s₂) X.xe s₁) X.xe s := by
  refine thn (ha pins s σ H _ I h) fun v s1 ⟨x, H1, I1, r1, q1⟩ => ?_
  refine thn (hb pins s1 σ H1 _ I1 q1) fun u s2 ⟨y, H2, I2, r2, q2⟩ => ?_
  exact hf v u s2 x y H2 I2 r1 r2 q2
theorem pe_op {op : Operator} {r : R2} (ho : OpR X (binaryOp op) r) (ha : PE X a ta) (hb : PE X b tb) : PE X (.BinOp a op b pos) (tOp r ta tb) := by
  intro pins s σ H Q I h
  exact wpAny_BinOp (binT ha hb I h fun v u s2 x y H2 I2 rx ry q => ho pins s2 σ H2 x y v u Q I2 rx ry q)
theorem pe_un {op : UnaryOp} {r : V → Hp → VK → Prop} (ho : UnR X (unaryOp op) r) (ha : PE X a ta) : PE X (.UnaryOp op a pos) (tUn r ta) := by
  intro pins s σ H Q I h
  exact UnaryOp_ (thn (ha pins s σ H _ I h) fun v s1 ⟨x, H1, I1, r1, q1⟩ => ho pins s1 σ H1 x v Q I1 r1 q1)
theorem opI {f : Value → Value → Sem Value} {C : Int → Int → Prop} {g : Int → Int → Int}
    (rule : ∀ (i j : Int) (t u : Tok) (s : Shared) (Q : Value → Shared → Prop) (E : Value → Shared → Prop), C i j → Q (.int (g i j) s.toks) { s with toks := s.toks + 1 } → wpAny (model X.prog X.w) X.A (f (.int i t) (.int j u)) Q E s) :
    OpR X f (rI C fun i j => .int (g i j)) := by
  intro pins s σ H x y v u Q I rx ry h
  obtain ⟨i, j, rfl, rfl, hc, q⟩ := h
  obtain ⟨t, rfl⟩ := rx
  obtain ⟨t', rfl⟩ := ry
  exact rule i j t t' s _ _ hc ⟨.int (g i j), H, I.tok _, ⟨_, rfl⟩, q⟩
theorem opI0 {f : Value → Value → Sem Value} {g : Int → Int → Int}
    (rule : ∀ (i j : Int) (t u : Tok) (s : Shared) (Q : Value → Shared → Prop) (E : Value → Shared → Prop), Q (.int (g i j) s.toks) { s with toks := s.toks + 1 } → wpAny (model X.prog X.w) X.A (f (.int i t) (.int j u)) Q E s) :
    OpR X f (rI0 fun i j => .int (g i j)) := by
  intro pins s σ H x y v u Q I rx ry h
  obtain ⟨i, j, rfl, rfl, q⟩ := h
  obtain ⟨t, rfl⟩ := rx
  obtain ⟨t', rfl⟩ := ry
  exact rule i j t t' s _ _ ⟨.int (g i j), H, I.tok _, ⟨_, rfl⟩, q⟩
def CDiv (i j : Int) : Prop := 0 < j ∧ j < 1073741824
def CMul (i j : Int) : Prop := (-(2 ^ 64) < i ∧ i < 2 ^ 64) ∨ (-(2 ^ 64) < j ∧ j < 2 ^ 64)
theorem CMul.ok {i j : Int} (h : CMul i j) : IntMulOk i j := by
  rcases h with ⟨h1, h2⟩ | ⟨h1, h2⟩
  · exact .of_left (intBits_le_64 h1 h2)
  · exact .of_right (intBits_le_64 h1 h2)
theorem op_add : OpR X (binaryOp .Add) (rI0 fun i j => .int (i + j)) := opI0 fun _ _ _ _ _ _ _ q => add_int q
theorem op_sub : OpR X (binaryOp .Sub) (rI0 fun i j => .int (i - j)) := opI0 fun _ _ _ _ _ _ _ q => sub_int q
theorem op_fdiv : OpR X (binaryOp .FloorDiv) (rI CDiv fun i j => .int (i / j)) := opI fun i j _ _ _ _ _ hc q => by
  have h1 : (0 : Int) < j := hc.1
  have h2 : j < 1073741824 := hc.2
  exact floordiv_int (by omega) (by rw [Int.fdiv_eq_ediv_of_nonneg i (by omega)]; exact q) (.inl (PyProof.noPylong_small (by omega)))
theorem unI {f : Value → Sem Value} {g : Int → Int}
    (rule : ∀ (i : Int) (t : Tok) (s : Shared) (Q : Value → Shared → Prop) (E : Value → Shared → Prop), Q (.int (g i) s.toks) { s with toks := s.toks + 1 } → wpAny (model X.prog X.w) X.A (f (.int i t)) Q E s) :
    UnR X f (rU fun i => .int (g i)) := by
  intro pins s σ H x v Q I rx h
  obtain ⟨i, rfl, q⟩ := h
  obtain ⟨t, rfl⟩ := rx
  exact rule i t s _ _ ⟨.int (g i), H, I.tok _, ⟨_, rfl⟩, q⟩
theorem un_neg : UnR X (unaryOp .USub) (rU fun i => .int (-i)) := unI fun _ _ _ _ _ q => neg_int q
end
section
variable {X : Cx} {a b c : Expr} {ta tb tc : TE} {pos : Pos}
theorem OpR.or {f : Value → Value → Sem Value} {r r' : R2} (h : OpR X f r) (h' : OpR X f r') : OpR X f (fun x y H Q => r x y H Q ∨ r' x y H Q) := by
  intro pins s σ H x y v u Q I rx ry q
  rcases q with q | q
  · exact h pins s σ H x y v u Q I rx ry q
  · exact h' pins s σ H x y v u Q I rx ry q
theorem line63 : (sizeLine : Nat) < 2 ^ 63 := by rw [sizeLine_eq]; decide
theorem vals1 {x : V} {us : List Value} (r : Vals [x] us) : ∃ u, us = [u] ∧ RelV x u := by
  cases r with
  | cons r1 r2 => cases r2; exact ⟨_, rfl, r1⟩
end
end L2
namespace L2
open PySem PySem.Spec PyProof.Rows
structure ObjM (h : Heap) (x dx C : Addr) (mA : Str → Option Value) : Prop where
  obj : h.get? x = some (PySem.W.instObj C dx)
  ns : h.Ns1 dx mA
  ne : dx ≠ x
theorem lookIn_ns {h : Heap} {dx : Addr} {mA : Str → Option Value} (n : h.Ns1 dx mA) : ∃ od, h.get? dx = some od ∧ ∀ name, PySem.W.lookIn name od = some (mA name) := by
  obtain ⟨o, es, ep, ho, hd, hk, _, hm⟩ := n
  refine ⟨o, ho, fun name => ?_⟩
  have e := hm name
  unfold nsFind findBy at e
  rw [← Array.find?_toList] at e
  unfold PySem.W.lookIn
  rw [hd]
  dsimp only
  split
  · rename_i y q
    rw [q] at e
    exact congrArg some e
  · rename_i q
    rw [q] at e
    have a : es.toList.any (·.refKey) = false := by
      rw [List.any_eq_false]
      intro y hy
      obtain ⟨z, t, hkey⟩ := hk y (Array.mem_toList_iff.mp hy)
      simp [DictEntry.refKey, hkey]
    have a' : ¬ es.toList.any (·.refKey) = true := by rw [a]; exact Bool.false_ne_true
    rw [if_neg a']
    exact congrArg some e
theorem ObjM.look {h : Heap} {x dx C : Addr} {mA : Str → Option Value} (I : ObjM h x dx C mA) : ∃ od, PySem.W.InstAt h x (PySem.W.instObj C dx) C (some od) ∧ ∀ name, PySem.W.lookIn name od = some (mA name) :=
  let ⟨od, ho, hl⟩ := lookIn_ns I.ns
  ⟨od, ⟨I.obj, rfl, rfl, ho⟩, hl⟩
section
variable {prog : Program} {w : World} {A : Around} {E : Value → Shared → Prop} {s : Shared} {K : PySem.W.Frag} {x dx C f : Addr} {mA : Str → Option Value} {name : Str} {v : Value}
theorem get_map {expr : Bool} {Q : Value → Shared → Prop} (X : K.In s.heap) (I : ObjM s.heap x dx C mA) (hg : PySem.W.plainGet K C name = true) (hh : PySem.W.hasDictIn K C = true)
    (ha : PySem.W.findIn K (.ref C) name = some none) (hv : mA name = some v) (hv' : PySem.W.handedIn v = true) (h : Q v { s with toks := s.toks + 1 }) :
    wpAny (model prog w) A (getAttr (.ref x) name expr) Q E s := by
  obtain ⟨od, J, hl⟩ := I.look
  exact PySem.W.get_value X J (PySem.W.plainGet_of hg).1 (PySem.W.findObj_own hh ha rfl (by rw [hl, hv])) hv' h
theorem get_meth {pl : Sem Bool} {Q : Value × List Value → Shared → Prop} (X : K.In s.heap) (I : ObjM s.heap x dx C mA) (hg : PySem.W.plainGet K C name = true)
    (hf : PySem.W.findIn K (.ref C) name = some (some (.ref f))) (ht : PySem.W.isFn K (.ref f) = true) (hv : mA name = none) (h : Q (.ref f, [.ref x]) s) :
    wpAny (model prog w) A (getMethod (.ref x) name pl) Q E s := by
  obtain ⟨od, J, hl⟩ := I.look
  exact PySem.W.method_fn X J (PySem.W.plainGet_of hg).1 (PySem.W.plainGet_of hg).2 hf (beq_iff_eq.mp ht) (by show (PySem.W.lookIn name od).map (·.isSome) = some false; rw [hl, hv]; rfl) h
theorem set_map {ns : List Str} {Q : Unit → Shared → Prop} (X : K.In s.heap) (I : ObjM s.heap x dx C mA)
    (hs : PySem.W.findIn K (.ref C) "__setattr__" = some (some (.builtin "object.__setattr__"))) (hp : PySem.W.plainOver K C = true) (ht : PySem.W.takerIn K C name = some none) (hh : PySem.W.hasDictIn K C = true)
    (hw : PySem.Within mA ns) (hsz : ns.length ≤ sizeLine)
    (h : ∀ h', ObjM h' x dx C (fun y => if y = name then some v else mA y) → Heap.SameBut dx s.heap h' → Q () { s with heap := h', toks := s.toks + 2 }) :
    wpAny (model prog w) A (setAttr (.ref x) name v) Q E s := by
  obtain ⟨od, J, hl⟩ := I.look
  refine PySem.W.set_plain X J hs (PySem.W.osa_open (s := { s with toks := s.toks + 1 }) (r := none) X J hp ht fun b => ?_)
  obtain ⟨cd, hc, hd'⟩ := PySem.W.any_some hh
  have hx : s.heap.get? x = some ⟨.ref C, some dx, .plain, #[]⟩ := I.obj
  refine wpAny_bind (wpAny_pure (wpAny_bind (wpAny_bind (wpAny_loadPart hx (wpAny_bind (PySem.W.Looks.here (s := { s with toks := s.toks + 1 }) (PySem.W.looks_clsIn X hc) ?_))))))
  rw [hd']
  refine wpAny_pure (a := some dx) (wpAny_bind (wpAny_pure (wpAny_bind ?_)))
  refine wpAny_nsSet1 (s := { s with toks := s.toks + 1 }) I.ns fun h' hn2 hs2 => ?_
  obtain ⟨oD, esD, epD, hoD, hdD, hcD⟩ := hn2.count (PySem.Within.cons name v hw)
  refine wpAny_bind (wpAny_lookBehind hoD (by rw [hdD]; exact pastItsLine_dict (Nat.le_trans hcD (by rw [List.length_cons]; omega))) ?_)
  exact wpAny_pure (h _ ⟨(hs2.2 _ (Ne.symm I.ne)).trans I.obj, hn2, I.ne⟩ hs2)
theorem make_map {R : Result → Shared → Prop} {vs : List Value} {kw : List (Str × Value)} (X : K.In s.heap) (hm : PySem.W.makesIn K C = true)
    (hi : PySem.W.findIn K (.ref C) "__init__" = some (some (.ref f))) (hf : PySem.W.typeIn K (.ref f) = some (.type "function"))
    (h : codeAny (model prog w) (A.under (.builtin "type.__call__" ⟨.ref C :: vs, kw⟩)) (.call (.ref f) ⟨.ref (s.heap.objs.size + 1) :: vs, kw⟩) (PySem.W.InitBack (s.heap.objs.size + 1) R)
      { s with heap := (s.heap.push PySem.W.emptyDict).push (PySem.W.instObj C s.heap.objs.size) }) :
    codeAny (model prog w) A (.call (.ref C) ⟨vs, kw⟩) R s := by
  obtain ⟨hh, g, d, t, os⟩ := s
  exact PySem.W.make_core (PySem.W.makes_of X hm) (PySem.W.looks_findIn X hi) (fun self => PySem.W.bind_fn X self hf) (.inl rfl) h
end
def putF (f : Str) (v : V) : List (Str × V) → List (Str × V)
  | [] => [(f, v)]
  | (g, x) :: r => if g = f then (g, v) :: r else (g, x) :: putF f v r
theorem lookup_putF (f g : Str) (v : V) : ∀ fs : List (Str × V), (putF f v fs).lookup g = if g = f then some v else fs.lookup g
  | [] => by
    show List.lookup g [(f, v)] = _
    by_cases h : g = f
    · have hb : (g == f) = true := beq_iff_eq.mpr h
      simp only [List.lookup, hb, if_pos h]
    · have hb : (g == f) = false := beq_eq_false_iff_ne.mpr h
      simp only [List.lookup, hb, if_neg h]
  | (k, x) :: r => by
    have ih := lookup_putF f g v r
    rw [show putF f v ((k, x) :: r) = (if k = f then (k, v) :: r else (k, x) :: putF f v r) from rfl]
    by_cases hk : k = f
    · rw [if_pos hk]
      by_cases h : g = k
      · have hb : (g == k) = true := beq_iff_eq.mpr h
        simp only [List.lookup, hb, if_pos (h.trans hk)]
      · have hb : (g == k) = false := beq_eq_false_iff_ne.mpr h
        simp only [List.lookup, hb, if_neg (fun e : g = f => h (e.trans hk.symm))]
    · rw [if_neg hk]
      by_cases h : g = k
      · have hb : (g == k) = true := beq_iff_eq.mpr h
        simp only [List.lookup, hb, if_neg (fun e : g = f => hk (h.symm.trans e))]
      · have hb : (g == k) = false := beq_eq_false_iff_ne.mpr h
        simp only [List.lookup, hb]
        exact ih
theorem keys_putF (f : Str) (v : V) : ∀ fs : List (Str × V), f ∈ (putF f v fs).map (·.1) ∧ ∀ g, g ∈ fs.map (·.1) → g ∈ (putF f v fs).map (·.1)
  | [] => ⟨by simp [putF], fun g h => by simp at h⟩
  | (k, x) :: r => by
    obtain ⟨i1, i2⟩ := keys_putF f v r
    rw [show putF f v ((k, x) :: r) = (if k = f then (k, v) :: r else (k, x) :: putF f v r) from rfl]
    by_cases hk : k = f
    · rw [if_pos hk]
      subst hk
      exact ⟨by simp, fun g h => by simpa using h⟩
    · rw [if_neg hk]
      refine ⟨?_, fun g h => ?_⟩
      · rw [List.map_cons]
        exact List.mem_cons_of_mem _ i1
      · rw [List.map_cons] at h ⊢
        rcases List.mem_cons.mp h with e | e
        · exact List.mem_cons.mpr (.inl e)
        · exact List.mem_cons_of_mem _ (i2 g e)
theorem length_putF (f : Str) (v : V) : ∀ fs : List (Str × V), (putF f v fs).length ≤ fs.length + 1
  | [] => by simp [putF]
  | (k, x) :: r => by
    have ih := length_putF f v r
    rw [show putF f v ((k, x) :: r) = (if k = f then (k, v) :: r else (k, x) :: putF f v r) from rfl]
    by_cases hk : k = f
    · rw [if_pos hk, List.length_cons, List.length_cons]; omega
    · rw [if_neg hk, List.length_cons, List.length_cons]; omega
theorem RelO.some_of {v : V} {o : Option Value} (r : RelO (some v) o) : ∃ u, o = some u ∧ RelV v u := by
  cases o with
  | none => exact (show False from r).elim
  | some u => exact ⟨u, rfl, r⟩
theorem RelO.none_of {o : Option Value} (r : RelO none o) : o = none := by
  cases o with
  | none => rfl
  | some u => exact (show False from r).elim
theorem handed_of {v : V} {u : Value} (r : RelV v u) : PySem.W.handedIn u = true := by
  cases v with
  | non => cases (show u = Value.none from r); rfl
  | bl b => cases (show u = Value.bool b from r); rfl
  | int i => obtain ⟨t, e⟩ := (show ∃ t, u = Value.int i t from r); cases e; rfl
  | str x => obtain ⟨t, e⟩ := (show ∃ t, u = Value.str x t from r); cases e; rfl
  | byt b => obtain ⟨t, e⟩ := (show ∃ t, u = Value.bytes b t from r); cases e; rfl
  | flt b => obtain ⟨t, e⟩ := (show ∃ t, u = Value.float b t from r); cases e; rfl
  | ref a => cases (show u = Value.ref a from r); rfl
  | ty n => cases (show u = Value.type n from r); rfl
section
variable {P : Program} {w : World} {H H' : Hp} {h h' : Heap} {a C dx : Addr} {fs fs' : List (Str × V)}
theorem ins_get (hok : HOk P w H h) (e : H a = some (.ins C dx fs)) : ∃ mA, ObjM h a dx C mA ∧ (∀ f, RelO (fs.lookup f) (mA f)) ∧ PySem.Within mA (fs.map (·.1)) ∧ fs.length ≤ 1000 ∧ H dx = some (.own a) := by
  obtain ⟨d, z, ne, ob, mA, n, r, q⟩ := (show ObjOk P w H h a (.ins C dx fs) from hok a _ e)
  exact ⟨mA, ⟨ob, n, ne⟩, r, q, z, d⟩
end
structure Cls (K : PySem.W.Frag) (C : Addr) : Prop where
  pg : PySem.W.plainGet K C Str.empty = true
  hd : PySem.W.hasDictIn K C = true
  po : PySem.W.plainOver K C = true
  sa : PySem.W.findIn K (.ref C) "__setattr__" = some (some (.builtin "object.__setattr__"))
theorem Cls.get {K : PySem.W.Frag} {C : Addr} (c : Cls K C) (f : Str) : PySem.W.plainGet K C f = true := c.pg
def NoAttr (K : PySem.W.Frag) (C : Addr) (f : Str) : Prop := PySem.W.findIn K (.ref C) f = some none
theorem NoAttr.taker {K : PySem.W.Frag} {C : Addr} {f : Str} (n : NoAttr K C f) : PySem.W.takerIn K C f = some none := by
  unfold PySem.W.takerIn
  rw [show PySem.W.findIn K (.ref C) f = some none from n]
  rfl
structure Meth (K : PySem.W.Frag) (C : Addr) (m : Str) (f : Addr) : Prop where
  at_ : PySem.W.findIn K (.ref C) m = some (some (.ref f))
  fn : PySem.W.isFn K (.ref f) = true
  kp : PySem.W.keepIn K (.ref f) = true
section
variable {X : Cx} {pins : List (Addr × Obj)} {σ : St} {H : Hp} {s : Shared} {a C dx : Addr} {fs : List (Str × V)} {f : Str} {v : V} {A : Around} {E : Value → Shared → Prop}
theorem getattr_ok {b : Bool} {Q : Value → Shared → Prop} (I : Inv X pins σ H s) (e : H a = some (.ins C dx fs)) (c : Cls X.K C) (n : NoAttr X.K C f) (l : fs.lookup f = some v)
    (h : ∀ u s', Inv X pins σ H s' → RelV v u → Q u s') : wpAny (model X.prog X.w) A (getAttr (.ref a) f b) Q E s := by
  obtain ⟨mA, O, r, _, _, _⟩ := ins_get I.hok e
  obtain ⟨u, hu, ru⟩ := RelO.some_of (v := v) (o := mA f) (by rw [← l]; exact r f)
  exact get_map I.kIn O (c.get f) c.hd n hu (handed_of ru) (h u _ (I.tok _) ru)
theorem getmeth_ok {m : Str} {g : Addr} {pl : Sem Bool} {Q : Value × List Value → Shared → Prop} (I : Inv X pins σ H s) (e : H a = some (.ins C dx fs)) (c : Cls X.K C) (k : Meth X.K C m g) (l : fs.lookup m = none)
    (h : Q (.ref g, [.ref a]) s) : wpAny (model X.prog X.w) A (getMethod (.ref a) m pl) Q E s := by
  obtain ⟨mA, O, r, _, _, _⟩ := ins_get I.hok e
  have hn : mA m = none := RelO.none_of (by rw [← l]; exact r m)
  exact get_meth I.kIn O (c.get m) k.at_ k.fn hn h
theorem setattr_ok {y : V} {u : Value} {Q : Unit → Shared → Prop} (I : Inv X pins σ H s) (e : H a = some (.ins C dx fs)) (c : Cls X.K C) (n : NoAttr X.K C f) (hl : fs.length < 1000) (ry : RelV y u)
    (h : ∀ s', Inv X pins σ (upd H a (.ins C dx (putF f y fs))) s' → Q () s') : wpAny (model X.prog X.w) A (setAttr (.ref a) f u) Q E s := by
  obtain ⟨mA, O, r, wi, _, ho⟩ := ins_get I.hok e
  have hz : (fs.map (·.1)).length ≤ sizeLine := by rw [List.length_map, sizeLine_eq]; omega
  refine set_map I.kIn O c.sa c.po n.taker c.hd wi hz fun h' O' sb => h _ ?_
  have hd : ∃ o, h'.get? dx = some o := let ⟨o, _, _, e', _⟩ := O'.ns; ⟨o, e'⟩
  refine I.write (x := a) (e := dx) (by rw [e]; exact True.intro) (.inr ho) (fun b q hb z => (sb.2 b hb).trans z) hd ?_
  refine ⟨by rw [upd_ne O.ne]; exact ho, ?_, O.ne, O'.obj, _, O'.ns, fun g => ?_, fun g hg => ?_⟩
  · have := length_putF f y fs; omega
  · show RelO ((putF f y fs).lookup g) (if g = f then some u else mA g)
    rw [lookup_putF]
    by_cases q : g = f
    · rw [if_pos q, if_pos q]; exact ry
    · rw [if_neg q, if_neg q]; exact r g
  · by_cases q : g = f
    · rw [q]; exact (keys_putF f y fs).1
    · refine (keys_putF f y fs).2 g (wi g fun z => hg ?_)
      show (if g = f then some u else mA g) = none
      rw [if_neg q]; exact z
theorem Inv.made (I : Inv X pins σ H s) : Inv X pins σ (upd (upd H s.heap.objs.size (.own (s.heap.objs.size + 1))) (s.heap.objs.size + 1) (.ins C s.heap.objs.size []))
    { s with heap := (s.heap.push PySem.W.emptyDict).push (PySem.W.instObj C s.heap.objs.size) } := by
  have e1 : (s.heap.push PySem.W.emptyDict).get? s.heap.objs.size = some PySem.W.emptyDict := Heap.get?_push_size s.heap rfl
  have e2 : ((s.heap.push PySem.W.emptyDict).push (PySem.W.instObj C s.heap.objs.size)).get? (s.heap.objs.size + 1) = some (PySem.W.instObj C s.heap.objs.size) := by
    have := Heap.get?_push_size (s.heap.push PySem.W.emptyDict) (o := PySem.W.instObj C s.heap.objs.size) rfl
    rwa [Heap.size_push] at this
  have e3 : (s.heap.push PySem.W.emptyDict).Ns s.heap.objs.size (fun _ => none) := ⟨PySem.W.emptyDict, #[], _, e1, rfl, (fun e he => absurd he (by simp)), fun _ => rfl⟩
  have I1 := I.laid (a := s.heap.objs.size) (o := .own (s.heap.objs.size + 1)) (h' := s.heap.push PySem.W.emptyDict) (t' := s.toks) (fun b u q => Heap.get?_push_of_some _ q) (Nat.le_refl _) ⟨_, e1⟩
  refine I1.laid (a := s.heap.objs.size + 1) (o := .ins C s.heap.objs.size []) (t' := s.toks) (fun b u q => Heap.get?_push_of_some _ q) (Nat.le_of_eq (Heap.size_push _ _)) ?_
  have ne : s.heap.objs.size ≠ s.heap.objs.size + 1 := Nat.ne_of_lt (Nat.lt_succ_self _)
  refine ⟨by rw [upd_ne ne, upd_same], Nat.zero_le _, ne, e2, fun _ => none, (Heap.Ns1.of_empty e3).at fun o q => Heap.get?_push_of_some _ q, fun _ => True.intro, fun y hy => absurd rfl hy⟩
theorem attr_of {prog : Program} {w : World} {env : Env} {e : Expr} {f : Str} {pos : Pos} {s : Shared} {Q : Value → Shared → Prop} (hb : attributeBase e f env (eval e env) = eval e env)
    (h : wpAny (model prog w) A (eval e env) (fun o s₁ => wpAny (model prog w) A (getAttr o f true) Q E s₁) E s) : wpAny (model prog w) A (eval (.Attribute e f pos) env) Q E s :=
  Attribute_any_ h (by rw [arm_eval_Attribute, hb])
end
def tFld (K : PySem.W.Frag) (ta : TE) (f : Str) : TE := fun σ H Q => ta σ H fun x H1 => ∃ a C dx fs v, x = .ref a ∧ H1 a = some (.ins C dx fs) ∧ Cls K C ∧ NoAttr K C f ∧ fs.lookup f = some v ∧ Q v H1
def sFld (K : PySem.W.Frag) (ta tv : TE) (f : Str) : TS := fun D σ H => tv σ H fun y H1 => ta σ H1 fun x H2 => ∃ a C dx fs, x = .ref a ∧ H2 a = some (.ins C dx fs) ∧ Cls K C ∧ NoAttr K C f ∧ fs.length < 1000 ∧
  D.nx σ (upd H2 a (.ins C dx (putF f y fs)))
def InOp (X : Cx) (op : Operator) (rd : V → V → Hp → VK → Prop) : Prop :=
  ∀ (pins : List (Addr × Obj)) (s : Shared) (σ : St) (H : Hp) (x y : V) (u v : Value) (Q : VK), Inv X pins σ H s → RelV x u → RelV y v → rd x y H Q → wpAny (model X.prog X.w) X.A (inplaceOp op u v) (EP X pins σ Q) X.xe s
def sFldAug (K : PySem.W.Frag) (ta tv : TE) (rd : V → V → Hp → VK → Prop) (f : Str) : TS := fun D σ H => ta σ H fun x H1 => ∃ a C dx fs v, x = .ref a ∧ H1 a = some (.ins C dx fs) ∧ Cls K C ∧ NoAttr K C f ∧ fs.lookup f = some v ∧
  tv σ H1 fun y H2 => rd v y H2 fun z H3 => ∃ dx' fs', H3 a = some (.ins C dx' fs') ∧ fs'.length < 1000 ∧ D.nx σ (upd H3 a (.ins C dx' (putF f z fs')))
section
variable {X : Cx} {o e value : Expr} {f : Str} {pos pos' tpos : Pos} {ta tv : TE}
theorem pe_fld (he : PE X e ta) (hb : attributeBase e f X.env (eval e X.env) = eval e X.env) : PE X (.Attribute e f pos) (tFld X.K ta f) := by
  intro pins s σ H Q I h
  refine attr_of hb (thn (he pins s σ H _ I h) fun u s1 ⟨x, H1, I1, rx, a, C, dx, fs, v, ex, ea, c, n, l, q⟩ => ?_)
  subst ex
  obtain rfl : u = Value.ref a := rx
  exact getattr_ok I1 ea c n l fun u' s2 I2 ru => ⟨v, H1, I2, ru, q⟩
theorem ps_fld (ha : PE X o ta) (hv : PE X value tv) (hs : swapsWith value (some (.Attribute o f pos')) pos.line X.env = pure false) : PS X (.Assign [.Attribute o f pos'] value pos) (sFld X.K ta tv f) := by
  intro pins s σ H D I h
  refine plainObj_wpAny_Assign_Attribute (thn (hv pins s σ H _ I h) fun u s1 ⟨y, H1, I1, ry, q⟩ => thn (ha pins s1 σ H1 _ I1 q) fun ov s2 ⟨x, H2, I2, rx, a, C, dx, fs, ex, ea, c, n, l, q2⟩ => ?_) hs
  subst ex
  obtain rfl : ov = Value.ref a := rx
  exact setattr_ok I2 ea c n l ry fun s3 I3 => ⟨σ, _, I3, q2⟩
theorem ps_fldaug {op : Operator} {rd : V → V → Hp → VK → Prop} (ha : PE X o ta) (hv : PE X value tv) (hop : InOp X op rd) : PS X (.AugAssign (.Attribute o f tpos) op value pos) (sFldAug X.K ta tv rd f) := by
  intro pins s σ H D I h
  refine wpAny_AugAssign_AttributeAny (thn (ha pins s σ H _ I h) fun ov s1 ⟨x, H1, I1, rx, a, C, dx, fs, v, ex, ea, c, n, l, q⟩ => ?_)
  subst ex
  obtain rfl : ov = Value.ref a := rx
  refine getattr_ok I1 ea c n l fun u s2 I2 ru => thn (hv pins s2 σ H1 _ I2 q) fun w3 s3 ⟨y, H2, I3, ry, q3⟩ => thn (hop pins s3 σ H2 v y u w3 _ I3 ru ry q3) fun w4 s4 ⟨z, H3, I4, rz, dx', fs', ea', l', q4⟩ => ?_
  exact setattr_ok I4 ea' c n l' rz fun s5 I5 => ⟨σ, _, I5, q4⟩
def rAdd : V → V → Hp → VK → Prop := fun x y H Q => ∃ i j, x = .int i ∧ y = .int j ∧ Q (.int (i + j)) H
theorem in_add : InOp X .Add rAdd := by
  rintro pins s σ H x y u v Q I rx ry ⟨i, j, rfl, rfl, q⟩
  obtain ⟨t, rfl⟩ := (show ∃ t, u = Value.int i t from rx)
  obtain ⟨t', rfl⟩ := (show ∃ t', v = Value.int j t' from ry)
  exact PyProof.Rows.iadd_int ⟨.int (i + j), H, I.tok _, ⟨_, rfl⟩, q⟩
end
section
variable {X : Cx} {pins : List (Addr × Obj)} {σ : St} {H : Hp} {s : Shared} {A : Around} {E : Value → Shared → Prop} {Q : Value → Shared → Prop} {c : Value} {b : Bool}
end
end L2
namespace L2
open PySem PySem.Spec PyProof.Rows
structure Room (k : Nat) (A : Around) : Prop where
  hd : A.handled = none
  dp : A.depth + 3 * k + 5 < recursionLimit
  un : A.units + 16 * k + 200 < cLine
theorem Room.mono {j k : Nat} {A : Around} (r : Room k A) (h : j ≤ k) : Room j A := ⟨r.hd, by have := r.dp; omega, by have := r.un; omega⟩
theorem Room.deeper {k : Nat} {A : Around} (r : Room (k + 1) A) (env : Env) : Room k (A.deeper env) :=
  ⟨r.hd, by have := r.dp; show A.depth + 1 + 3 * k + 5 < _; omega, by have := r.un; show A.units + 3 + 16 * k + 200 < _; omega⟩
theorem Room.in1 {k : Nat} {A : Around} (r : Room (k + 1) A) : Room k A.in1 :=
  ⟨r.hd, by have := r.dp; show A.depth + 3 * k + 5 < _; omega, by have := r.un; show A.units + 1 + 16 * k + 200 < _; omega⟩
theorem make_depth {A : Around} {C : Addr} {us : List Value} {kw : List (Str × Value)} : (A.under (.builtin "type.__call__" ⟨.ref C :: us, kw⟩)).depth = A.depth + 1 := by
  first | rfl | simp [Around.under, Code.weight, Code.isCreation, Code.isGuard, Code.isCaller, Code.frames, Code.isFrame, guardIds]
theorem make_units {A : Around} {C : Addr} {us : List Value} {kw : List (Str × Value)} : (A.under (.builtin "type.__call__" ⟨.ref C :: us, kw⟩)).units = A.units + 1 := by
  first | rfl | simp [Around.under, Code.cUnits, Code.frames, Code.isFrame]
theorem Room.make {k : Nat} {A : Around} (r : Room (k + 1) A) (C : Addr) (us : List Value) (kw : List (Str × Value)) : Room k (A.under (.builtin "type.__call__" ⟨.ref C :: us, kw⟩)) :=
  ⟨r.hd, by have := r.dp; rw [make_depth]; omega, by have := r.un; rw [make_units]; omega⟩
theorem Room.depth {k : Nat} {A : Around} (r : Room k A) : A.depth < recursionLimit := by have := r.dp; omega
theorem Room.units {k : Nat} {A : Around} (r : Room k A) : A.units + 64 < cLine := by have := r.un; omega
def tNil : TA := fun _ H Q => Q [] H
def tCons (ta : TE) (tr : TA) : TA := fun σ H Q => ta σ H fun x H1 => tr σ H1 fun xs H2 => Q (x :: xs) H2
section
variable {X : Cx} {e : Expr} {es : List Expr} {te : TE} {t : TA} {pos : Pos}
theorem pa_nil : PA X [] tNil := fun _ _ _ _ H Q I h => Calls.spliced_nil ⟨[], H, I, .nil, h⟩
theorem pa_cons (ha : PE X e te) (hr : PA X es t) (hs : starEach (e :: es) X.env = (false, eval e X.env) :: starEach es X.env := by rfl) : PA X (e :: es) (tCons te t) := by
  intro pos pins s σ H Q I h
  rw [hs]
  show wpAny _ _ (spliced ((false, eval e X.env) :: backTo pos (starEach es X.env))) _ _ s
  refine Calls.spliced_cons (thn (ha pins s σ H _ I h) fun u s1 ⟨x, H1, I1, r1, q1⟩ => ?_)
  exact thn (hr pos pins s1 σ H1 _ I1 q1) fun us s2 ⟨xs, H2, I2, r2, q2⟩ => ⟨x :: xs, H2, I2, .cons r1 r2, q2⟩
def tTup (t : TA) : TE := fun σ H Q => t σ H fun xs H1 => xs.length ≤ sizeLine ∧ ∀ p, H1 p = none → Q (.ref p) (upd H1 p (.tup xs))
def tLst (t : TA) : TE := fun σ H Q => t σ H fun xs H1 => xs.length ≤ sizeLine ∧ ∀ p, H1 p = none → Q (.ref p) (upd H1 p (.lst xs))
theorem pe_tup {x1} (h : PA X es t) : PE X (.Tuple es x1 pos) (tTup t) := by
  intro pins s σ H Q I hq
  refine wpAny_Tuple_spliced (thn (h pos pins s σ H _ I hq) fun us s1 ⟨xs, H1, I1, r, z, q⟩ => ⟨by rw [← r.length]; exact z, ?_⟩)
  have hf : H1 s1.heap.objs.size = none := I1.hok.fresh (Nat.le_refl _)
  refine ⟨.ref s1.heap.objs.size, upd H1 s1.heap.objs.size (.tup xs), I1.laid (t' := s1.toks) (fun b u e => Heap.get?_push_of_some _ e) (Nat.le_refl _) ?_, rfl, q _ hf⟩
  exact ⟨z, us, r, ⟨_, Heap.get?_push_size _ rfl, rfl, _, rfl⟩⟩
theorem pe_lst (h : PA X es t) : PE X (.List es pos) (tLst t) := by
  intro pins s σ H Q I hq
  refine wpAny_List_spliced (thn (h pos pins s σ H _ I hq) fun us s1 ⟨xs, H1, I1, r, z, q⟩ => ⟨by rw [← r.length]; exact z, ?_⟩)
  have hf : H1 s1.heap.objs.size = none := I1.hok.fresh (Nat.le_refl _)
  refine ⟨.ref s1.heap.objs.size, upd H1 s1.heap.objs.size (.lst xs), I1.laid (t' := s1.toks) (fun b u e => Heap.get?_push_of_some _ e) (Nat.le_refl _) ?_, rfl, q _ hf⟩
  exact ⟨z, us, 0, r, Heap.get?_push_size _ rfl⟩
end
abbrev Sp := List V → Hp → VK → XK → Prop
abbrev CXT := List Env → Hp → Shared → XK → Value → Shared → Prop
structure Env0 (P : Program) (w : World) (K : PySem.W.Frag) (mg : Str → Option Value) (base : Heap) (A : Around) (outer : List Env) (s : Shared) (H : Hp) : Prop where
  frames : A.frames = some outer
  mod : Mod K mg base
  bs : ∀ b o, base.get? b = some o → s.heap.get? b = some o ∧ H b = none
  bsz : base.objs.size ≤ s.heap.objs.size
  funs : s.heap.FunFrames base outer
  frf : ∀ b ∈ frs outer, H b = none
  hok : HOk P w H s.heap
  bare : AllBare s.gens
def CE (outer : List Env) (P : Program) (w : World) (H : Hp) (s : Shared) (Q : VK) (u : Value) (s' : Shared) : Prop :=
  ∃ v H', s'.os = s.os ∧ AllBare s'.gens ∧ Un (frs outer) [] H H' s.heap s'.heap ∧ HOk P w H' s'.heap ∧ RelV v u ∧ Q v H'
def CR (CX : CXT) (outer : List Env) (P : Program) (w : World) (H : Hp) (s : Shared) (Q : VK) (E : XK) (r : Result) (s' : Shared) : Prop :=
  match r with
  | .ok (.ret u) => CE outer P w H s Q u s'
  | .ok _ => False
  | .error e => CX outer H s E e s'
structure FnOk (P : Program) (w : World) (K : PySem.W.Frag) (mg : Str → Option Value) (base : Heap) (CX : CXT) (k : Nat) (f : Addr) (fd : FuncData) (ps : List Str) (sp : Sp) : Prop where
  len : ∀ vs H Q E, sp vs H Q E → vs.length = ps.length
  run : ∀ (A : Around) (outer : List Env) (s : Shared) (H : Hp) (args : Args) (us : List Value) (vs : List V) (Q : VK) (E : XK), Room k A → Env0 P w K mg base A outer s H → BindsTo s fd args (ps.zip us) → Vals vs us → sp vs H Q E →
    codeAny (model P w) A (.call (.ref f) args) (CR CX outer P w H s Q E) s
theorem FnOk.mono {P : Program} {w : World} {K : PySem.W.Frag} {mg : Str → Option Value} {base : Heap} {CX : CXT} {j k : Nat} {f : Addr} {fd : FuncData} {ps : List Str} {sp : Sp} (F : FnOk P w K mg base CX j f fd ps sp) (h : j ≤ k) :
    FnOk P w K mg base CX k f fd ps sp := ⟨F.len, fun A outer s H args us vs Q E hr => F.run A outer s H args us vs Q E (hr.mono h)⟩
theorem FnOk.imp {P : Program} {w : World} {K : PySem.W.Frag} {mg : Str → Option Value} {base : Heap} {CX : CXT} {k : Nat} {f : Addr} {fd : FuncData} {ps : List Str} {sp sp' : Sp} (F : FnOk P w K mg base CX k f fd ps sp)
    (h : ∀ vs H Q E, sp' vs H Q E → sp vs H Q E) : FnOk P w K mg base CX k f fd ps sp' :=
  ⟨fun vs H Q E q => F.len vs H Q E (h _ _ _ _ q), fun A outer s H args us vs Q E hr he hb hv hs => F.run A outer s H args us vs Q E hr he hb hv (h _ _ _ _ hs)⟩
theorem Env0.make {P : Program} {w : World} {K : PySem.W.Frag} {mg : Str → Option Value} {base : Heap} {A : Around} {outer : List Env} {s : Shared} {H : Hp} (e : Env0 P w K mg base A outer s H) (C : Addr) (us : List Value) (kw : List (Str × Value)) :
    Env0 P w K mg base (A.under (.builtin "type.__call__" ⟨.ref C :: us, kw⟩)) outer s H := ⟨by first | exact e.frames | (simpa [Around.under, Code.envs, Code.isFrame, pushEnvs] using e.frames), e.mod, e.bs, e.bsz, e.funs, e.frf, e.hok, e.bare⟩
theorem Env0.in1 {P : Program} {w : World} {K : PySem.W.Frag} {mg : Str → Option Value} {base : Heap} {A : Around} {outer : List Env} {s : Shared} {H : Hp} (e : Env0 P w K mg base A outer s H) :
    Env0 P w K mg base A.in1 outer s H := ⟨e.frames, e.mod, e.bs, e.bsz, e.funs, e.frf, e.hok, e.bare⟩
section
variable {X : Cx} {pins : List (Addr × Obj)} {σ : St} {H : Hp} {s s' : Shared}
theorem Inv.env0 (I : Inv X pins σ H s) : Env0 X.prog X.w X.K X.mg X.base X.A X.stack s H :=
  ⟨I.ok.frames, I.ok.mod, I.bs, Nat.le_trans I.ok.bsz I.sz, I.stack, I.stkFree, I.hok, I.bare⟩
theorem Inv.after {Q : VK} {u : Value} (I : Inv X pins σ H s) (h : CE X.stack X.prog X.w H s Q u s') : EP X pins σ Q u s' := by
  obtain ⟨v, H', os, bare, un, hok, r, q⟩ := h
  obtain ⟨hh, g, d, t, os'⟩ := s'
  obtain rfl : os' = s.os := os
  exact ⟨v, H', I.call (h' := hh) (g' := g) (d' := d) (t' := t) (ch := []) un hok bare (fun b z => absurd z (by simp)), r, q⟩
end
def tCall (sp : Sp) (dvs : List V) (E : XK) (t : TA) : TE := fun σ H Q => t σ H fun vs H1 => sp (vs ++ dvs) H1 Q E
def tMeth (C : Addr) (m : Str) (sp : Sp) (dvs : List V) (E : XK) (ta : TE) (t : TA) : TE := fun σ H Q => ta σ H fun x H1 => ∃ a dx fs, x = .ref a ∧ H1 a = some (.ins C dx fs) ∧ fs.lookup m = none ∧
  t σ H1 fun vs H2 => sp (x :: (vs ++ dvs)) H2 Q E
def tMake (C : Addr) (sp : Sp) (dvs : List V) (E : XK) (t : TA) : TE := fun σ H Q => t σ H fun vs H1 => ∀ x dx, H1 x = none → H1 dx = none → dx ≠ x →
  sp (.ref x :: (vs ++ dvs)) (upd (upd H1 dx (.own x)) x (.ins C dx [])) (fun v H2 => v = .non ∧ Q (.ref x) H2) E
def Binds (K : PySem.W.Frag) (fd : FuncData) (ps : List Str) (ds : List Value) : Prop :=
  ∀ (s : Shared) (us : List Value), K.In s.heap → (us ++ ds).length = ps.length → BindsTo s fd ⟨us, []⟩ (ps.zip (us ++ ds))
theorem Binds.all {K : PySem.W.Frag} {fd : FuncData} {ps : List Str} (h : ∀ us : List Value, us.length = ps.length → bindArgs fd ⟨us, []⟩ = pure (ps.zip us)) : Binds K fd ps [] := fun s us _ hl => by
  rw [List.append_nil] at hl ⊢
  exact .of_eq (h us hl)
def Passes (CX : CXT) (X : Cx) (E : XK) : Prop := ∀ (pins : List (Addr × Obj)) (σ : St) (H : Hp) (s : Shared) (e : Value) (s' : Shared), Inv X pins σ H s → CX X.stack H s E e s' → X.xe e s'
section
variable {X : Cx} {CX : CXT} {k : Nat} {f C : Addr} {fd : FuncData} {ps : List Str} {sp : Sp} {dvs : List V} {ds : List Value} {E : XK} {x m : Str} {p pos apos : Pos} {e o : Expr} {es : List Expr} {ta : TE} {t : TA}
theorem run_fn {pins : List (Addr × Obj)} {σ : St} {H : Hp} {s : Shared} {Q : VK} {us : List Value} {vs : List V} (F : FnOk X.prog X.w X.K X.mg X.base CX k f fd ps sp) (hr : Room k X.A) (hb : Binds X.K fd ps ds) (hd : Vals dvs ds) (hx : Passes CX X E)
    (I : Inv X pins σ H s) (r : Vals vs us) (h : sp (vs ++ dvs) H Q E) : wpAny (model X.prog X.w) X.A (call (.ref f) us) (EP X pins σ Q) X.xe s := by
  have r2 : Vals (vs ++ dvs) (us ++ ds) := r.append hd
  have hl : (us ++ ds).length = ps.length := by rw [← r2.length]; exact F.len _ _ _ _ h
  refine wpAny_call (codeAny_mono (F.run X.A X.stack s H ⟨us, []⟩ (us ++ ds) (vs ++ dvs) Q E hr I.env0 (hb s us I.kIn hl) r2 h) fun r s' hq => ?_)
  cases r with
  | error e => exact hx pins σ H s e s' I hq
  | ok fl =>
    cases fl with
    | ret u => exact I.after hq
    | next => exact False.elim hq
    | brk => exact False.elim hq
    | cont => exact False.elim hq
theorem pe_call (F : FnOk X.prog X.w X.K X.mg X.base CX k f fd ps sp) (hr : Room k X.A) (hg : Gl X x) (hm : X.mg x = some (.ref f)) (hk : PySem.W.keepIn X.K (.ref f) = true) (hb : Binds X.K fd ps ds) (hd : Vals dvs ds) (hx : Passes CX X E)
    (ha : PA X (e :: es) t) (hdb : (x == ("__debug__" : Str)) = false := by decide) (he : starEach (e :: es) X.env = (false, eval e X.env) :: starEach es X.env := by rfl) (hpl : (backTo pos (starEach es X.env)).any (·.1) = false := by rfl) :
    PE X (.Call (.Name x p) (e :: es) [] pos) (tCall sp dvs E t) := by
  intro pins s σ H Q I h
  refine wpAny_Call_Name_kw (ld_glob I hg hm ?_ hdb)
  refine PySem.W.callWith_K (h₀ := X.base) I.ok.mod.kin hk (thn (ha pos pins s σ H _ I h) fun us s1 ⟨vs, H1, I1, r, q⟩ => ⟨I1.kIn, ?_⟩) he hpl
  exact run_fn F hr hb hd hx I1 r q
theorem pe_meth {pl : Sem Bool} (he : PE X o ta) (c : Cls X.K C) (hm : Meth X.K C m f) (F : FnOk X.prog X.w X.K X.mg X.base CX k f fd ps sp) (hr : Room k X.A) (hb : Binds X.K fd ps ds) (hd : Vals dvs ds) (hx : Passes CX X E) (ha : PA X (e :: es) t)
    (hst : starEach (e :: es) X.env = (false, eval e X.env) :: starEach es X.env := by rfl) (hpl : (backTo pos (starEach es X.env)).any (·.1) = false := by rfl)
    (ht : eval (.Call (.Attribute o m apos) (e :: es) [] pos) X.env = (do
      let ov ← eval o X.env
      standAt apos.atName
      let (f, first) ← holding [ov] (getMethod ov m pl)
      callWith pos f first (backTo pos (starEach (e :: es) X.env)) (backToKw pos (keywordEach [] X.env))) := by rfl) :
    PE X (.Call (.Attribute o m apos) (e :: es) [] pos) (tMeth C m sp dvs E ta t) := by
  intro pins s σ H Q I h
  refine PySem.W.methodCall_KW (pl := pl) (thn (he pins s σ H _ I h) fun u s1 ⟨x, H1, I1, rx, a, dx, fs, ex, ea, l, q⟩ => ?_) ht
  subst ex
  obtain rfl : u = Value.ref a := rx
  refine getmeth_ok I1 ea c hm l ?_
  refine PySem.W.callWith_K (first := [.ref a]) (h₀ := X.base) I.ok.mod.kin hm.kp (thn (ha pos pins s1 σ H1 _ I1 q) fun us s2 ⟨vs, H2, I2, r, q2⟩ => ⟨I2.kIn, ?_⟩) hst hpl
  exact run_fn (us := .ref a :: us) (vs := .ref a :: vs) F hr hb hd hx I2 (.cons rfl r) q2
theorem pe_meth0 {pl : Sem Bool} (he : PE X o ta) (c : Cls X.K C) (hm : Meth X.K C m f) (F : FnOk X.prog X.w X.K X.mg X.base CX k f fd ps sp) (hr : Room k X.A) (hb : Binds X.K fd ps ds) (hd : Vals dvs ds) (hx : Passes CX X E)
    (ht : eval (.Call (.Attribute o m apos) [] [] pos) X.env = (do
      let ov ← eval o X.env
      standAt apos.atName
      let (f, first) ← holding [ov] (getMethod ov m pl)
      callWith pos f first (backTo pos (starEach [] X.env)) (backToKw pos (keywordEach [] X.env))) := by rfl) :
    PE X (.Call (.Attribute o m apos) [] [] pos) (tMeth C m sp dvs E ta tNil) := by
  intro pins s σ H Q I h
  refine PySem.W.methodCall_KW (pl := pl) (thn (he pins s σ H _ I h) fun u s1 ⟨x, H1, I1, rx, a, dx, fs, ex, ea, l, q⟩ => ?_) ht
  subst ex
  obtain rfl : u = Value.ref a := rx
  refine getmeth_ok I1 ea c hm l ?_
  exact PySem.W.callWith_K0 (first := [.ref a]) I1.kIn hm.kp (run_fn (us := [.ref a]) (vs := [.ref a]) F hr hb hd hx I1 (.cons rfl .nil) q)
structure Mk (K : PySem.W.Frag) (C f : Addr) : Prop where
  makes : PySem.W.makesIn K C = true
  init : PySem.W.findIn K (.ref C) "__init__" = some (some (.ref f))
  fn : PySem.W.isFn K (.ref f) = true
  kp : PySem.W.keepIn K (.ref C) = true
theorem run_make {pins : List (Addr × Obj)} {σ : St} {H : Hp} {s : Shared} {Q : VK} {us : List Value} {vs : List V} (M : Mk X.K C f) (F : FnOk X.prog X.w X.K X.mg X.base CX k f fd ps sp) (hr : Room (k + 1) X.A) (hb : Binds X.K fd ps ds) (hd : Vals dvs ds)
    (hx : Passes CX X E) (I : Inv X pins σ H s) (r : Vals vs us)
    (h : ∀ x dx, H x = none → H dx = none → dx ≠ x → sp (.ref x :: (vs ++ dvs)) (upd (upd H dx (.own x)) x (.ins C dx [])) (fun v H2 => v = .non ∧ Q (.ref x) H2) E) :
    wpAny (model X.prog X.w) X.A (call (.ref C) us) (EP X pins σ Q) X.xe s := by
  have hq := h (s.heap.objs.size + 1) s.heap.objs.size (I.hok.fresh (Nat.le_succ _)) (I.hok.fresh (Nat.le_refl _)) (Nat.ne_of_lt (Nat.lt_succ_self _))
  have I2 := Inv.made (C := C) I
  have r2 : Vals (V.ref (s.heap.objs.size + 1) :: (vs ++ dvs)) (Value.ref (s.heap.objs.size + 1) :: (us ++ ds)) := .cons rfl (r.append hd)
  have hl : (Value.ref (s.heap.objs.size + 1) :: us ++ ds).length = ps.length := by
    have e := r2.length
    rw [F.len _ _ _ _ hq] at e
    exact e.symm
  refine wpAny_call (make_map (f := f) I.kIn M.makes M.init (beq_iff_eq.mp M.fn) (codeAny_mono (F.run _ X.stack _ _ ⟨Value.ref (s.heap.objs.size + 1) :: us, []⟩ (Value.ref (s.heap.objs.size + 1) :: (us ++ ds)) _ _ E (hr.make C us [])
    (I2.env0.make C us []) (hb _ (Value.ref (s.heap.objs.size + 1) :: us) I2.kIn hl) r2 hq) fun r s' hq' => ?_))
  cases r with
  | error e => exact hx pins σ _ _ e s' I2 hq'
  | ok fl =>
    cases fl with
    | ret u =>
      obtain ⟨v, H', I3, rv, ev, q3⟩ := I2.after hq'
      subst ev
      exact ⟨rv, ⟨V.ref (s.heap.objs.size + 1), H', I3, rfl, q3⟩⟩
    | next => exact False.elim hq'
    | brk => exact False.elim hq'
    | cont => exact False.elim hq'
theorem pe_make (M : Mk X.K C f) (F : FnOk X.prog X.w X.K X.mg X.base CX k f fd ps sp) (hr : Room (k + 1) X.A) (hg : Gl X x) (hm : X.mg x = some (.ref C)) (hb : Binds X.K fd ps ds) (hd : Vals dvs ds) (hx : Passes CX X E)
    (ha : PA X (e :: es) t) (hdb : (x == ("__debug__" : Str)) = false := by decide) (he : starEach (e :: es) X.env = (false, eval e X.env) :: starEach es X.env := by rfl) (hpl : (backTo pos (starEach es X.env)).any (·.1) = false := by rfl) :
    PE X (.Call (.Name x p) (e :: es) [] pos) (tMake C sp dvs E t) := by
  intro pins s σ H Q I h
  refine wpAny_Call_Name_kw (ld_glob I hg hm ?_ hdb)
  refine PySem.W.callWith_K (h₀ := X.base) I.ok.mod.kin M.kp (thn (ha pos pins s σ H _ I h) fun us s1 ⟨vs, H1, I1, r, q⟩ => ⟨I1.kIn, ?_⟩) he hpl
  exact run_make M F hr hb hd hx I1 r q
theorem pe_make0 (M : Mk X.K C f) (F : FnOk X.prog X.w X.K X.mg X.base CX k f fd ps sp) (hr : Room (k + 1) X.A) (hg : Gl X x) (hm : X.mg x = some (.ref C)) (hb : Binds X.K fd ps ds) (hd : Vals dvs ds) (hx : Passes CX X E)
    (hdb : (x == ("__debug__" : Str)) = false := by decide) : PE X (.Call (.Name x p) [] [] pos) (tMake C sp dvs E tNil) := by
  intro pins s σ H Q I h
  refine wpAny_Call_Name_kw (ld_glob I hg hm ?_ hdb)
  exact PySem.W.callWith_K0 I.kIn M.kp (run_make (us := []) M F hr hb hd hx I .nil h)
end
section
variable {X : Cx} {CX : CXT} {k : Nat} {f C : Addr} {fd : FuncData} {ps ks : List Str} {sp : Sp} {E : XK} {x m : Str} {p pos apos kpos : Pos} {e o : Expr} {es : List Expr} {kws : List Keyword} {te ta : TE} {t tk : TA} {nm : Option Str}
variable {g : List Value → List Value → List Value} {gV : List V → List V → List V}
end
structure FnScope (N P : List Str) (sc : Scope) : Prop where
  kind : sc.kind = .function
  co : sc.isCoroutine = false
  gen : sc.isGenerator = false
  nd : N.Nodup
  pre : N.take P.length = P
  par : ∀ x ∈ P, sc.names.lookup x = some .local ∨ sc.names.lookup x = some .cell
  nofree : ∀ y ∈ sc.names, y.2 ≠ .free
theorem bindL_out {kindOf : Str → Option NameKind} {x : Str} : ∀ {binds : List (Str × Value)} {m : Str → Option Value}, (∀ v, (x, v) ∉ binds) → bindL kindOf binds m x = m x
  | [], _, _ => rfl
  | (n, v) :: r, m, h => by
    unfold bindL
    rw [bindL_out fun w hw => h w (List.mem_cons_of_mem _ hw)]
    split
    · have : x ≠ n := by rintro rfl; exact h v List.mem_cons_self
      simp [this]
    · rfl
theorem bindC_out {kindOf : Str → Option NameKind} {x : Str} : ∀ {binds : List (Str × Value)} {m : Str → Option Value}, (∀ v, (x, v) ∉ binds) → bindC kindOf binds m x = m x
  | [], _, _ => rfl
  | (n, v) :: r, m, h => by
    unfold bindC
    rw [bindC_out fun w hw => h w (List.mem_cons_of_mem _ hw)]
    split
    · rfl
    · have : x ≠ n := by rintro rfl; exact h v List.mem_cons_self
      simp [this]
theorem bindL_get {kindOf : Str → Option NameKind} {x : Str} {v : Value} : ∀ {P : List Str} {vs : List Value} {i : Nat} {m : Str → Option Value}, P.Nodup → P[i]? = some x → vs[i]? = some v → kindOf x = some .local →
    bindL kindOf (P.zip vs) m x = some v
  | [], _, _, _, _, h, _, _ => by simp at h
  | _ :: _, [], _, _, _, _, h, _ => by simp at h
  | p :: P, w :: vs, 0, m, nd, h1, h2, hk => by
    simp at h1 h2; subst h1; subst h2
    show bindL kindOf ((p, w) :: P.zip vs) m p = _
    unfold bindL
    rw [bindL_out fun v hv => (List.nodup_cons.mp nd).1 (List.of_mem_zip hv).1, if_pos hk]
    simp
  | p :: P, w :: vs, i + 1, m, nd, h1, h2, hk => by
    show bindL kindOf ((p, w) :: P.zip vs) m x = _
    unfold bindL
    exact bindL_get (i := i) (List.nodup_cons.mp nd).2 (by simpa using h1) (by simpa using h2) hk
theorem bindC_get {kindOf : Str → Option NameKind} {x : Str} {v : Value} : ∀ {P : List Str} {vs : List Value} {i : Nat} {m : Str → Option Value}, P.Nodup → P[i]? = some x → vs[i]? = some v → kindOf x ≠ some .local →
    bindC kindOf (P.zip vs) m x = some v
  | [], _, _, _, _, h, _, _ => by simp at h
  | _ :: _, [], _, _, _, _, h, _ => by simp at h
  | p :: P, w :: vs, 0, m, nd, h1, h2, hk => by
    simp at h1 h2; subst h1; subst h2
    show bindC kindOf ((p, w) :: P.zip vs) m p = _
    unfold bindC
    rw [bindC_out fun v hv => (List.nodup_cons.mp nd).1 (List.of_mem_zip hv).1, if_neg hk]
    simp
  | p :: P, w :: vs, i + 1, m, nd, h1, h2, hk => by
    show bindC kindOf ((p, w) :: P.zip vs) m x = _
    unfold bindC
    exact bindC_get (i := i) (List.nodup_cons.mp nd).2 (by simpa using h1) (by simpa using h2) hk
def start (N : List Str) (vs : List V) : St := vs.map some ++ List.replicate (N.length - vs.length) none
def cxOf (CX : CXT) (P : Program) (w : World) (K : PySem.W.Frag) (mg : Str → Option Value) (base : Heap) (N : List Str) (qual : Str) (scope : Scope) (f : Addr) (cd : Value) (A : Around) (outer : List Env) (s : Shared) (H : Hp) (E : XK) : Cx where
  prog := P
  w := w
  K := K
  mg := mg
  base := base
  A := A.deeper (envOfC qual scope s.heap.objs.size f cd)
  N := N
  s_0 := s
  H_0 := H
  env := envOfC qual scope s.heap.objs.size f cd
  outer := outer
  stack := envOfC qual scope s.heap.objs.size f cd :: outer
  ex := []
  calm := true
  fn := fun _ => true
  pn := []
  xe := fun e s' => wpAny (model P w) (A.deeper (envOfC qual scope s.heap.objs.size f cd)) (leaving (envOfC qual scope s.heap.objs.size f cd) e) (fun _ s'' => CX outer H s E e s'') (fun e' s'' => CX outer H s E e' s'') s'
theorem cell_has {sc : Scope} {n : Nat} {x : Str} (h : sc.names.lookup x = some .cell) : ∃ c, (cellsFrom n sc.names []).lookup x = some c := by
  have q := PySem.W.cellsFrom_some sc.names n [] (.inl h)
  exact Option.isSome_iff_exists.mp q
theorem inv_start {CX : CXT} {P : Program} {w : World} {K : PySem.W.Frag} {mg : Str → Option Value} {base : Heap} {N ps : List Str} {qual : Str} {scope : Scope} {f : Addr} {cd : Value} {A : Around} {outer : List Env} {s s1 : Shared} {H : Hp} {E : XK} {us : List Value} {vs : List V}
    (S : FnScope N ps scope) (hd : A.handled = none) (e0 : Env0 P w K mg base A outer s H) (hl : vs.length = ps.length) (r : Vals vs us)
    (x : InCallC s s.heap.objs.size (bindL (envOfC qual scope s.heap.objs.size f cd).kindOf (ps.zip us) fun _ => none) (cellsFrom (s.heap.objs.size + 1) scope.names []) (bindC (envOfC qual scope s.heap.objs.size f cd).kindOf (ps.zip us) fun _ => none) s1) :
    Inv (cxOf CX P w K mg base N qual scope f cd A outer s H E) [] (start N vs) H s1 := by
  have hpl : ps.length ≤ N.length := by have := congrArg List.length S.pre; rw [List.length_take] at this; omega
  obtain ⟨h1, tk, rfl, hk⟩ := x.done
  have noA : ∀ b : Addr, b ∉ (cxOf CX P w K mg base N qual scope f cd A outer s H E).ex := fun b z => absurd (show b ∈ ([] : List Addr) from z) (by simp)
  refine ⟨⟨e0.mod, S.kind, rfl, rfl, Nat.le_refl _, fun y z c h1 h2 => ?_, fun y hy => ?_, fun y c _ h => ?_, fun _ => hd, Around.frames_deeper e0.frames, .inr ⟨rfl, rfl⟩, fun b z => absurd z (noA b), e0.bs, e0.bsz, fun b _ _ => noA b, fun b z => absurd z (noA b), e0.funs, e0.frf⟩,
    rfl, e0.bare, Un.kept hk, ⟨_, x.toInCall.ns, fun i y v h1 h2 h3 => ?_⟩, fun y c h => ⟨_, x.cell y c h⟩, e0.hok.fresh (Nat.le_refl _), fun y c h => ?_, fun p hp => absurd (show p ∈ ([] : List (Addr × Obj)) from hp) (by simp), e0.hok.kept hk, ?_⟩
  · exact name_of_addr x.apart (PySem.mem_of_lookup h1) (PySem.mem_of_lookup h2)
  · have hy : scope.names.lookup y = some .cell ∨ scope.names.lookup y = some .free := hy
    rcases hy with hy | hy
    · exact cell_has hy
    · exact absurd rfl (S.nofree _ (PySem.mem_of_lookup hy))
  · exact Nat.le_of_lt (x.above y c (PySem.mem_of_lookup h))
  · have hi : i < vs.length := by
      unfold start at h2
      by_cases hi : i < vs.length
      · exact hi
      · rw [List.getElem?_append_right (by simpa using hi)] at h2
        rw [List.getElem?_replicate] at h2
        split at h2 <;> cases h2
    have ha : vs[i]? = some v := by
      unfold start at h2
      rw [List.getElem?_append_left (by simpa using hi), List.getElem?_map] at h2
      cases e : vs[i]? with
      | none => rw [e] at h2; cases h2
      | some a => rw [e] at h2; cases h2; rfl
    obtain ⟨u, hu, rv⟩ := r.get ha
    have hp : ps[i]? = some y := by
      rw [← S.pre, List.getElem?_take_of_lt (by omega)]; exact h1
    have ndP : ps.Nodup := by rw [← S.pre]; exact S.nd.sublist (List.take_sublist _ _)
    refine ⟨u, rv, ?_⟩
    rcases S.par y (List.mem_of_getElem? hp) with k | k
    · exact .inl ⟨k, bindL_get ndP hp hu k⟩
    · obtain ⟨c, e⟩ := cell_has (n := s.heap.objs.size + 1) k
      refine .inr ⟨.inl k, c, e, ?_⟩
      have q := x.cell y c e
      rw [bindC_get ndP hp hu (by show scope.names.lookup y ≠ _; rw [k]; decide)] at q
      exact q
  · exact e0.hok.fresh (Nat.le_of_lt (x.above y c (PySem.mem_of_lookup h)))
  · unfold start
    show _ = N.length
    rw [List.length_append, List.length_map, List.length_replicate]
    omega
theorem fn_of {CX : CXT} {P : Program} {w : World} {K : PySem.W.Frag} {mg : Str → Option Value} {base : Heap} {k : Nat} {f : Addr} {name qual : Str} {params : Arguments} {body : List Stmt} {scope : Scope} {dV kV doc pm cdv ct oc : Value} {an od : Option Addr}
    {osl : Array (Option Value)} {N ps : List Str} {sp : Sp} (lk : K.lookup f = some ⟨oc, od, .func (PySem.W.fnOf name qual params body scope dV kV doc pm an cdv ct), osl⟩) (hcd : PySem.W.codeIn K cdv qual = true) (S : FnScope N ps scope)
    (len : ∀ vs H Q E, sp vs H Q E → vs.length = ps.length)
    (hbody : ∀ (A : Around) (outer : List Env) (s : Shared) (H : Hp) (vs : List V) (Q : VK) (E : XK), Room k (A.deeper (envOfC qual scope s.heap.objs.size f cdv)) → sp vs H Q E →
      ∃ t, PSs (cxOf CX P w K mg base N qual scope f cdv A outer s H E) body t ∧ t { nx := fun _ H' => Q .non H', rt := Q } (start N vs) H) :
    FnOk P w K mg base CX (k + 1) f (PySem.W.fnOf name qual params body scope dV kV doc pm an cdv ct) ps sp := by
  refine ⟨len, fun A outer s H args us vs Q E hr e0 hb r hsp => ?_⟩
  have hl := len _ _ _ _ hsp
  have KX : K.In s.heap := e0.mod.kin.keeps fun b o e => (e0.bs b o e).1
  have lim : s.heap.NoLimit := e0.mod.nolimit.keeps fun b o e => (e0.bs b o e).1
  have hkind : ∀ y ∈ ps.zip us, scope.names.lookup y.1 = some .local ∨ (scope.names.lookup y.1 = some .cell ∧ ((cellsFrom (s.heap.objs.size + 1) scope.names []).lookup y.1).isSome = true) := fun ⟨n, v⟩ hy => by
    rcases S.par n (List.of_mem_zip hy).1 with q | q
    · exact .inl q
    · exact .inr ⟨q, PySem.W.cellsFrom_some _ _ _ (.inl q)⟩
  refine codeAny_call_function hr.depth (KX _ _ lk) rfl S.co S.gen rfl (PySem.W.codeRec_of KX hcd) (hb _ _ _ _ ?_)
  refine wpAny_newFunctionEnv_cells S.kind hkind fun env he s1 x => ?_
  subst he
  refine ⟨lim.keeps x.toInCall.keep, codeAny_func ?_⟩
  obtain ⟨t, ht, hq⟩ := hbody A outer s H vs Q E (hr.deeper _) hsp
  have I : Inv (cxOf CX P w K mg base N qual scope f cdv A outer s H E) [] (start N vs) H s1 := inv_start S hr.hd e0 hl r x
  refine wpAny_mono (ht [] s1 (start N vs) H _ I hq) (fun fl s' hs => ?_) fun e s' hs => hs
  have fin : ∀ {σ' : St} {H' : Hp} {v : V} {u : Value}, Inv (cxOf CX P w K mg base N qual scope f cdv A outer s H E) [] σ' H' s' → RelV v u → Q v H' → CE outer P w H s Q u s' :=
    fun {σ' H' v u} J rv q => ⟨v, H', J.os, J.bare, J.base, J.hok, rv, q⟩
  cases fl with
  | ret u =>
    obtain ⟨v, σ', H', J, rv, q⟩ := hs
    exact fin J rv q
  | next =>
    obtain ⟨σ', H', J, q⟩ := hs
    exact fin (v := V.non) (u := Value.none) J rfl q
  | brk =>
    obtain ⟨_, _, _, q⟩ := hs
    exact False.elim q
  | cont =>
    obtain ⟨_, _, _, q⟩ := hs
    exact False.elim q
end L2
namespace L2
open PySem PySem.Spec PyProof.Rows
section
variable {X : Cx} {x : Str} {p pos : Pos} {e : Expr} {es : List Expr} {t : TA} {id T : String} {r : List V → Hp → VK → Prop}
def tCB (r : List V → Hp → VK → Prop) (t : TA) : TE := fun σ H Q => t σ H fun vs H1 => r vs H1 Q
theorem pe_callB (hc : CallR X (.builtin id) r) (hg : Gl X x) (hm : X.mg x = none) (hv : bootBuiltins x = some (.builtin id)) (ha : PA X (e :: es) t) (hn : x ≠ "__name__" := by decide) (hdb : (x == ("__debug__" : Str)) = false := by decide)
    (he : starEach (e :: es) X.env = (false, eval e X.env) :: starEach es X.env := by rfl) (hpl : (backTo pos (starEach es X.env)).any (·.1) = false := by rfl) : PE X (.Call (.Name x p) (e :: es) [] pos) (tCB r t) := by
  intro pins s σ H Q I h
  refine wpAny_Call_Name_kw (ld_blt I hg hm hv ?_ hn hdb)
  exact PyProof.Rows.callWith_builtin1 (thn (ha pos pins s σ H _ I h) fun us s1 ⟨vs, H1, I1, r1, q1⟩ => hc pins s1 σ H1 vs us Q I1 r1 q1) he hpl
end
end L2
namespace HT
open PySem PyProof.Rows
section
open PySem.SeqAt
open PySem.AutoSeq1 (wpAny_loadPart')
open PySem.MeetsSeq PySem.MeetsSeq2 PySem.MeetsSeq3
end
section
variable {prog : Program} {w : World} {A : Around} {E : Value → Shared → Prop} {s : Shared}
def sIx (n d : Nat) : Option Int → Nat
  | none => d
  | some v => if v < 0 then (v + (n : Int)).toNat else min v.toNat n
theorem sIx_none (n d : Nat) : sIx n d none = d := rfl
theorem sIx_nat (n d k : Nat) : sIx n d (some (k : Int)) = min k n := by
  show (if (k : Int) < 0 then ((k : Int) + (n : Int)).toNat else min (k : Int).toNat n) = min k n
  rw [if_neg (by omega), Int.toNat_natCast]
end
end HT
namespace L2
open PySem PySem.Spec PyProof.Rows
abbrev TO := St → Hp → (Option Int → Hp → Prop) → Prop
def PO (X : Cx) (e : Option Expr) (t : TO) : Prop :=
  ∀ (pins : List (Addr × Obj)) (s : Shared) (σ : St) (H : Hp) (Q : Option Int → Hp → Prop), Inv X pins σ H s → t σ H Q →
    wpAny (model X.prog X.w) X.A (evalPart e X.env) (fun u s' => ∃ o H', Inv X pins σ H' s' ∧ IsPart u o ∧ Q o H') X.xe s
def tNoPart : TO := fun _ H Q => Q none H
def tPart (t : TE) : TO := fun σ H Q => t σ H fun x H1 => ∃ i, x = .int i ∧ Q (some i) H1
section
variable {X : Cx} {e : Expr} {te : TE} {lo hi : Option Expr} {tl th : TO} {pos p2 : Pos}
theorem po_none : PO X none tNoPart := by
  intro pins s σ H Q I h
  rw [evalPart_none]
  exact wpAny_pure ⟨none, H, I, .none, h⟩
theorem po_some (h : PE X e te) : PO X (some e) (tPart te) := by
  intro pins s σ H Q I hw
  rw [evalPart_some]
  refine thn (h pins s σ H _ I hw) fun u s1 ⟨x, H1, I1, r1, q1⟩ => ?_
  obtain ⟨i, rfl, q⟩ := q1
  obtain ⟨t, rfl⟩ := r1
  exact ⟨some i, H1, I1, .int i t, q⟩
def SlR (X : Cx) (r : V → Option Int → Option Int → Hp → VK → Prop) : Prop :=
  ∀ (pins : List (Addr × Obj)) (s : Shared) (σ : St) (H : Hp) (x : V) (v vl vu : Value) (lo hi : Option Int) (sl : Addr) (Q : VK), Inv X pins σ H s → RelV x v → s.heap.IsSliceOf sl vl vu .none → IsPart vl lo → IsPart vu hi → r x lo hi H Q →
    ∃ T id, typeLookup (.type T) "__getitem__" = pure (some (.builtin id)) ∧ s.TypeIs v T ∧ wpAny (model X.prog X.w) X.A (getItem v (.ref sl)) (EP X pins σ Q) X.xe s
theorem SlR.or {r r' : V → Option Int → Option Int → Hp → VK → Prop} (h : SlR X r) (h' : SlR X r') : SlR X (fun x lo hi H Q => r x lo hi H Q ∨ r' x lo hi H Q) := by
  intro pins s σ H x v vl vu lo hi sl Q I rx hs pl pu q
  rcases q with q | q
  · exact h pins s σ H x v vl vu lo hi sl Q I rx hs pl pu q
  · exact h' pins s σ H x v vl vu lo hi sl Q I rx hs pl pu q
def tSl (r : V → Option Int → Option Int → Hp → VK → Prop) (te : TE) (tl th : TO) : TE := fun σ H Q => te σ H fun x H1 => tl σ H1 fun l H2 => th σ H2 fun u H3 => r x l u H3 Q
theorem pe_slice {r : V → Option Int → Option Int → Hp → VK → Prop} (hr : SlR X r) (he : PE X e te) (hl : PO X lo tl) (hu : PO X hi th) : PE X (.Subscript e (.Slice lo hi none p2) pos) (tSl r te tl th) := by
  intro pins s σ H Q I h
  refine Subscript_ (thn (he pins s σ H _ I h) fun v s1 ⟨x, H1, I1, r1, q1⟩ => ?_)
  refine wpAny_Slice (thn (hl pins s1 σ H1 _ I1 q1) fun vl s2 ⟨l, H2, I2, pl, q2⟩ => thn (hu pins s2 σ H2 _ I2 q2) fun vu s3 ⟨u, H3, I3, pu, q3⟩ => ?_)
  rw [evalPart_none]
  refine wpAny_pure ?_
  have I4 : Inv X pins σ H3 { s3 with heap := s3.heap.push { cls := .type "slice", data := .fields #[vl, vu, .none] } } := I3.kept (t' := s3.toks) fun b ob q => Heap.get?_push_of_some _ q
  obtain ⟨T, id, hT, ht, hg⟩ := hr pins { s3 with heap := s3.heap.push { cls := .type "slice", data := .fields #[vl, vu, .none] } } σ H3 x v vl vu l u s3.heap.objs.size Q I4 r1 (Heap.IsSliceOf.new ..) pl pu q3
  show wpAny (model X.prog X.w) X.A (subscriptTail e (.Slice lo hi none p2) v (.ref s3.heap.objs.size)) (EP X pins σ Q) X.xe { s3 with heap := s3.heap.push { cls := .type "slice", data := .fields #[vl, vu, .none] } }
  exact tail_any (ops := [.ref s3.heap.objs.size, v]) ht hT hg (by with_unfolding_all rfl)
def cutV (xs : List V) (lo hi : Option Int) : List V := (xs.drop (HT.sIx xs.length 0 lo)).take (HT.sIx xs.length xs.length hi - HT.sIx xs.length 0 lo)
theorem cutV_length (xs : List V) (lo hi : Option Int) : (cutV xs lo hi).length ≤ xs.length := by
  unfold cutV
  rw [List.length_take, List.length_drop]
  omega
end
end L2
namespace L2
open PySem PySem.Spec PyProof.Rows
def ixN (n : Nat) (i : Int) : Option Nat := if 0 ≤ i then (if i < n then some i.toNat else none) else if -(n : Int) ≤ i then some (i + n).toNat else none
def atI {α : Type} (xs : List α) (i : Int) : Option α := (ixN xs.length i).bind fun j => xs[j]?
theorem ixN_seq {n : Nat} {i : Int} {j : Nat} (h : ixN n i = some j) : seqIndex? i n = some j ∧ j < n ∧ -(n : Int) ≤ i ∧ i < n := by
  unfold ixN at h
  by_cases h0 : 0 ≤ i
  · rw [if_pos h0] at h
    by_cases h1 : i < n
    · rw [if_pos h1] at h
      have e : i.toNat = j := Option.some.inj h
      exact ⟨by rw [seqIndex_of h0 h1, e], by omega, by omega, h1⟩
    · rw [if_neg h1] at h; cases h
  · rw [if_neg h0] at h
    by_cases h1 : -(n : Int) ≤ i
    · rw [if_pos h1] at h
      have e : (i + n).toNat = j := Option.some.inj h
      exact ⟨by rw [seqIndex_neg (by omega) h1, e], by omega, h1, by omega⟩
    · rw [if_neg h1] at h; cases h
theorem atI_get {α : Type} {xs : List α} {i : Int} {v : α} (h : atI xs i = some v) : ∃ j, seqIndex? i xs.length = some j ∧ xs[j]? = some v ∧ j < xs.length ∧ -(xs.length : Int) ≤ i ∧ i < xs.length := by
  unfold atI at h
  cases e : ixN xs.length i with
  | none => rw [e] at h; cases h
  | some j =>
    rw [e] at h
    obtain ⟨h1, h2, h3, h4⟩ := ixN_seq e
    exact ⟨j, h1, h, h2, h3, h4⟩
theorem atI_nat {α : Type} {xs : List α} {j : Nat} {v : α} (h : xs[j]? = some v) : atI xs (j : Int) = some v := by
  have hj : j < xs.length := (List.getElem?_eq_some_iff.mp h).1
  have e : ixN xs.length (j : Int) = some j := by
    unfold ixN
    rw [if_pos (by omega), if_pos (by omega)]; simp
  unfold atI; rw [e]; exact h
def PlainIx (b : Expr) : Prop := ∀ o i, subscripted b false o i = operate [o, i] (getItem o i)
def IxR (X : Cx) (r : R2) : Prop :=
  ∀ (value slice : Expr) (pins : List (Addr × Obj)) (s : Shared) (σ : St) (H : Hp) (x y : V) (v u : Value) (Q : VK), Inv X pins σ H s → RelV x v → RelV y u → r x y H Q →
    subscripted slice false v u = operate [v, u] (getItem v u) → wpAny (model X.prog X.w) X.A (subscriptTail value slice v u) (EP X pins σ Q) X.xe s
def MtR (X : Cx) (id : String) (r : V → List V → Hp → VK → Prop) : Prop :=
  ∀ (pins : List (Addr × Obj)) (s : Shared) (σ : St) (H : Hp) (x : V) (xs : List V) (v : Value) (us : List Value) (Q : VK), Inv X pins σ H s → RelV x v → Vals xs us → r x xs H Q →
    wpAny (model X.prog X.w) X.A (call (.builtin id) (v :: us)) (EP X pins σ Q) X.xe s
section
variable {X : Cx} {a b : Expr} {ta tb : TE} {pos : Pos}
theorem IxR.or {r r' : R2} (h : IxR X r) (h' : IxR X r') : IxR X (fun x y H Q => r x y H Q ∨ r' x y H Q) := by
  intro value slice pins s σ H x y v u Q I rx ry q hs
  rcases q with q | q
  · exact h value slice pins s σ H x y v u Q I rx ry q hs
  · exact h' value slice pins s σ H x y v u Q I rx ry q hs
theorem MtR.or {id : String} {r r' : V → List V → Hp → VK → Prop} (h : MtR X id r) (h' : MtR X id r') : MtR X id (fun x xs H Q => r x xs H Q ∨ r' x xs H Q) := by
  intro pins s σ H x xs v us Q I rx rs q
  rcases q with q | q
  · exact h pins s σ H x xs v us Q I rx rs q
  · exact h' pins s σ H x xs v us Q I rx rs q
theorem pe_ix {r : R2} (hr : IxR X r) (ha : PE X a ta) (hb : PE X b tb) (hs : PlainIx b) : PE X (.Subscript a b pos) (tOp r ta tb) := by
  intro pins s σ H Q I h
  exact Subscript_ (binT ha hb I h fun v u s2 x y H2 I2 rx ry q => hr a b pins s2 σ H2 x y v u Q I2 rx ry q (hs _ _))
def rIxL (K : PySem.W.Frag) : R2 := fun x y H Q => ∃ p xs i v, x = .ref p ∧ y = .int i ∧ SqL K H p xs ∧ atI xs i = some v ∧ Q v H
def rIxT (K : PySem.W.Frag) : R2 := fun x y H Q => ∃ p xs i v, x = .ref p ∧ y = .int i ∧ SqT K H p xs ∧ atI xs i = some v ∧ Q v H
theorem ix_list : IxR X (rIxL X.K) := by
  intro value slice pins s σ H x y v u Q I rx ry h hs
  obtain ⟨p, xs, i, z, rfl, rfl, hq, he, q⟩ := h
  cases rx
  obtain ⟨t, rfl⟩ := ry
  obtain ⟨its, r, pl, hz⟩ := I.list hq
  obtain ⟨j, h1, h2, h3, h4, h5⟩ := atI_get he
  obtain ⟨w, ew, rw'⟩ := r.get h2
  have hl := r.length
  have hn := line63
  have fin : EP X pins σ Q w s := ⟨z, H, I, rw', q⟩
  by_cases h0 : 0 ≤ i
  · have hj : i.toNat = j := by
      rw [seqIndex_of h0 h5] at h1
      exact Option.some.inj h1
    exact item_listR pl.isList h0 (by omega) (by rw [hj]; simpa using ew) fin hs
  · have hj : (i + (its.toArray.size : Int)).toNat = j := by
      rw [seqIndex_neg (by omega) h4] at h1
      rw [List.size_toArray, ← hl]
      exact Option.some.inj h1
    exact subscriptTail_builtinR (x := w) pl.isList.typeIs slot_list_getitem.lookup
      (wpAny_getItem_list_neg (Q := fun r s' => r = w ∧ EP X pins σ Q r s') pl.isList (by omega) (by rw [List.size_toArray] <;> omega) (by omega) (by rw [hj]; simpa using ew) ⟨rfl, fin⟩) hs
theorem ix_tup : IxR X (rIxT X.K) := by
  intro value slice pins s σ H x y v u Q I rx ry h hs
  obtain ⟨p, xs, i, z, rfl, rfl, hq, he, q⟩ := h
  cases rx
  obtain ⟨t, rfl⟩ := ry
  obtain ⟨its, r, pl, hz⟩ := I.tuple hq
  obtain ⟨j, h1, h2, h3, h4, h5⟩ := atI_get he
  obtain ⟨w, ew, rw'⟩ := r.get h2
  have hl := r.length
  have hn := line63
  have fin : EP X pins σ Q w s := ⟨z, H, I, rw', q⟩
  exact subscriptTail_builtinR (x := w) pl.typeIs slot_tuple_getitem.lookup
    (getItem_tuple (j := j) (Q := fun r s' => r = w ∧ EP X pins σ Q r s') pl (by omega) (by omega) (by rw [List.size_toArray, ← hl]; exact h1) (by simpa using ew) ⟨rfl, fin⟩) hs
theorem Inv.lst {pins : List (Addr × Obj)} {σ : St} {H : Hp} {s : Shared} {p : Addr} {xs : List V} (I : Inv X pins σ H s) (h : H p = some (.lst xs)) :
    ∃ (its : List Value) (n : Nat), Vals xs its ∧ s.heap.get? p = some { cls := .type "list", data := .seq its.toArray n } ∧ xs.length ≤ sizeLine := by
  obtain ⟨z, its, n, r, e⟩ := I.hok p _ h
  exact ⟨its, n, r, e, z⟩
theorem slice_bounds (lo hi : Option Int) (n : Nat) : (sliceBounds lo hi none n).1 = ((HT.sIx n 0 lo : Nat) : Int) ∧ (sliceBounds lo hi none n).2.1 = ((HT.sIx n n hi : Nat) : Int) ∧ (sliceBounds lo hi none n).2.2 = 1 := by
  refine ⟨?_, ?_, rfl⟩
  · cases lo with
    | none => simp [sliceBounds, HT.sIx]
    | some i =>
      simp only [sliceBounds, HT.sIx, Option.getD_none, show (1 : Int) > 0 by decide, if_true]
      by_cases h : i < 0
      · simp only [h, if_true] <;> omega
      · simp only [h, if_false] <;> omega
  · cases hi with
    | none => simp [sliceBounds, HT.sIx]
    | some i =>
      simp only [sliceBounds, HT.sIx, Option.getD_none, show (1 : Int) > 0 by decide, if_true]
      by_cases h : i < 0
      · simp only [h, if_true] <;> omega
      · simp only [h, if_false] <;> omega
theorem slicePick_cut (its : List Value) (lo hi : Option Int) : slicePick its.toArray lo hi none = ((its.drop (HT.sIx its.length 0 lo)).take (HT.sIx its.length its.length hi - HT.sIx its.length 0 lo)).toArray := by
  obtain ⟨h1, h2, h3⟩ := slice_bounds lo hi its.toArray.size
  unfold slicePick
  rw [h1, h2, h3]
  simp only [sliceRange_one, pick_run, List.size_toArray] <;> rfl
def rSlL (K : PySem.W.Frag) : V → Option Int → Option Int → Hp → VK → Prop := fun x lo hi H Q => ∃ a xs, x = .ref a ∧ SqL K H a xs ∧ ∀ p, H p = none → Q (.ref p) (upd H p (.lst (cutV xs lo hi)))
theorem sl_list : SlR X (rSlL X.K) := by
  intro pins s σ H x v vl vu lo hi sl Q I rx hs pl pu h
  obtain ⟨a, xs, rfl, hx, q⟩ := h
  cases rx
  obtain ⟨its, r, ht, hz⟩ := I.list hx
  have hlen := r.length
  refine ⟨"list", _, slot_list_getitem.lookup, ht.isList.typeIs, ?_⟩
  refine wpAny_getItem_list_slice ht.isList hs pl pu .none (by simp) ?_ (by rw [List.size_toArray] <;> omega)
  rw [slicePick_cut, ← hlen]
  refine ⟨.ref s.heap.objs.size, _, I.laid (t' := s.toks) (o := .lst (cutV xs lo hi)) (fun b ob q => Heap.get?_push_of_some _ q) (Nat.le_refl _) ?_, rfl, q _ (I.hok.fresh (Nat.le_refl _))⟩
  exact ⟨Nat.le_trans (cutV_length xs lo hi) hz, _, 0, (r.drop (HT.sIx xs.length 0 lo)).take (HT.sIx xs.length xs.length hi - HT.sIx xs.length 0 lo), Heap.get?_push_size _ rfl⟩
theorem call_len_seq : CallR X (.builtin "len") (fun xs H Q => ∃ p ys, xs = [.ref p] ∧ (SqL X.K H p ys ∨ SqT X.K H p ys) ∧ Q (.int ys.length) H) := by
  intro pins s σ H xs us Q I r h
  obtain ⟨p, ys, rfl, hq, q⟩ := h
  obtain ⟨u, rfl, rx⟩ := vals1 r
  cases rx
  have hn := line63
  rcases hq with hq | hq
  · obtain ⟨its, r', pl, hz⟩ := I.list hq
    have hlen := r'.length
    exact Calls.call_len_list pl.isList (by simp only [List.size_toArray] <;> omega) ⟨.int ys.length, H, I.tok _, ⟨s.toks + 1, by rw [List.size_toArray, hlen]⟩, q⟩
  · obtain ⟨its, r', pl, hz⟩ := I.tuple hq
    have hlen := r'.length
    exact len_tuple pl (by simp only [List.size_toArray] <;> omega) ⟨.int ys.length, H, I.tok _, ⟨s.toks + 1, by rw [List.size_toArray, hlen]⟩, q⟩
theorem CallR.or {f : Value} {r r' : List V → Hp → VK → Prop} (h : CallR X f r) (h' : CallR X f r') : CallR X f (fun xs H Q => r xs H Q ∨ r' xs H Q) := by
  intro pins s σ H xs us Q I rs q
  rcases q with q | q
  · exact h pins s σ H xs us Q I rs q
  · exact h' pins s σ H xs us Q I rs q
def tyV (K : PySem.W.Frag) (T : String) (x : V) (H : Hp) : Prop := match x with
  | .str _ => T = "str"
  | .int _ => T = "int"
  | .ref p => (T = "list" ∧ ∃ xs, SqL K H p xs) ∨ (T = "tuple" ∧ ∃ o, K.lookup p = some o ∧ o.cls = .type "tuple" ∧ o.dict = none) ∨
      (T = "dict" ∧ ((∃ kvs, H p = some (.dK kvs)) ∨ ∃ kvs, H p = some (.dT kvs))) ∨ (T = "set" ∧ ∃ S n, H p = some (.set S n))
  | _ => False
theorem tyV_is {pins : List (Addr × Obj)} {σ : St} {H : Hp} {s : Shared} {T : String} {x : V} {v : Value} (I : Inv X pins σ H s) (r : RelV x v) (ty : tyV X.K T x H) :
    s.TypeIs v T ∧ ∀ a, v = .ref a → ∃ ob, s.heap.get? a = some ob ∧ ob.dict = none := by
  cases x with
  | str z =>
    obtain ⟨t, rfl⟩ := r
    cases (show T = "str" from ty)
    exact ⟨typeIs_str s z t, fun _ e => nomatch e⟩
  | int i =>
    obtain ⟨t, rfl⟩ := r
    cases (show T = "int" from ty)
    exact ⟨typeIs_int s i t, fun _ e => nomatch e⟩
  | ref p =>
    cases r
    rcases ty with ⟨rfl, xs, hq⟩ | ⟨rfl, o, hk, hc, hd⟩ | ⟨rfl, hk⟩ | ⟨rfl, S, n, hk⟩
    · obtain ⟨its, _, pl, _⟩ := I.list hq
      refine ⟨pl.isList.typeIs, fun a e => ?_⟩
      cases e
      obtain ⟨o, n, e, c, hd, _⟩ := pl
      exact ⟨o, e, hd⟩
    · refine ⟨⟨o, I.kIn p o hk, hc⟩, fun a e => ?_⟩
      cases e
      exact ⟨o, I.kIn _ o hk, hd⟩
    · have z : ∃ o, s.heap.get? p = some o ∧ o.ExactDict := by
        rcases hk with ⟨kvs, hk⟩ | ⟨kvs, hk⟩
        · obtain ⟨_, _, _, _, o, _, _, e, ex, _⟩ := I.hok p _ hk
          exact ⟨o, e, ex⟩
        · obtain ⟨_, _, _, _, o, _, _, e, ex, _⟩ := I.hok p _ hk
          exact ⟨o, e, ex⟩
      obtain ⟨o, e, ex⟩ := z
      refine ⟨⟨o, e, ex.1⟩, fun a e2 => ?_⟩
      cases e2
      exact ⟨o, e, ex.2.1⟩
    · obtain ⟨o, _, _, _, e, ex, _⟩ := I.hok p _ hk
      refine ⟨⟨o, e, ex.1⟩, fun a e2 => ?_⟩
      cases e2
      exact ⟨o, e, ex.2.1⟩
  | _ => exact False.elim ty
def tBM (K : PySem.W.Frag) (T : String) (r : V → List V → Hp → VK → Prop) (to : TE) (t : TA) : TE := fun σ H Q => to σ H fun x H1 => tyV K T x H1 ∧ t σ H1 fun xs H2 => r x xs H2 Q
variable {o e : Expr} {es : List Expr} {to : TE} {t : TA} {name : Str} {apos cpos : Pos} {T id : String} {r : V → List V → Hp → VK → Prop}
theorem pe_bm (pa : PlainAttrs T) (slot : Slot T name id) (hty : typeOf (.builtin id) = pure (.type "method_descriptor")) (hm : MtR X id r) (ho : PE X o to) (ha : PA X (e :: es) t)
    (hbase : attributeBase o name X.env (eval o X.env) = eval o X.env := by rfl)
    (hfew : ((backTo cpos (starEach (e :: es) X.env)).all (fun x => !x.1) && (backToKw cpos (keywordEach [] X.env)).all (fun x => x.1.isSome)
      && decide ((e :: es).length + ([] : List Keyword).length + (if ([] : List Keyword).isEmpty then 0 else 1) < 30)) = true := by rfl)
    (hline : (apos.endLine == cpos.line) = true := by rfl) (hs : starEach (e :: es) X.env = (false, eval e X.env) :: starEach es X.env := by rfl) (hplain : (backTo cpos (starEach es X.env)).any (·.1) = false := by rfl) :
    PE X (.Call (.Attribute o name apos) (e :: es) [] cpos) (tBM X.K T r to t) := by
  intro pins s σ H Q I h
  refine wpAny_Call_method_late hbase hfew hline rfl (thn (ho pins s σ H _ I h) fun v s1 ⟨x, H1, I1, r1, ty, q1⟩ => ?_)
  obtain ⟨h1, h2⟩ := tyV_is I1 r1 ty
  refine ⟨T, id, pa, slot, hty, h1, h2, ?_⟩
  have hA := ha cpos pins s1 σ H1 _ I1 q1
  rw [hs] at hA ⊢
  refine Calls.callWith_builtin (by show (false || (backTo cpos (starEach es X.env)).any (·.1)) = false; rw [hplain] <;> rfl) (Calls.evalArgs_plain ?_)
  exact thn hA fun us s2 ⟨vs, H2, I2, r2, q2⟩ => hm pins s2 σ H2 x vs v us Q I2 r1 r2 q2
end
end L2
namespace L2
open PySem PySem.Spec PyProof.Rows
def MtM (X : Cx) (id : String) (r : V → List V → Hp → VK → Prop) : Prop :=
  ∀ (pins : List (Addr × Obj)) (s : Shared) (σ : St) (H : Hp) (x : V) (xs : List V) (v : Value) (us : List Value) (Q : VK), Inv X pins σ H s → RelV x v → Vals xs us → r x xs H Q →
    wpAny (model X.prog X.w) X.A (call (.builtin id) (v :: us)) (EP X pins σ Q) X.xe s
theorem Vals.one : ∀ {x : V} {us : List Value}, Vals [x] us → ∃ u, us = [u] ∧ RelV x u
  | _, _, .cons r .nil => ⟨_, rfl, r⟩
theorem Vals.two : ∀ {x y : V} {us : List Value}, Vals [x, y] us → ∃ u v, us = [u, v] ∧ RelV x u ∧ RelV y v
  | _, _, _, .cons r (.cons q .nil) => ⟨_, _, rfl, r, q⟩
section
variable {X : Cx} {pins : List (Addr × Obj)} {σ : St} {H : Hp} {s : Shared} {l b : Addr} {xs ys zs : List V}
theorem Inv.lset {its its' : List Value} {n : Nat} {f : Array Value → Array Value} {t' : Nat} (I : Inv X pins σ H s) (hH : H l = some (.lst xs))
    (e : s.heap.get? l = some { cls := .type "list", data := .seq its.toArray n }) (hf : f its.toArray = its'.toArray) (hv : Vals ys its') (hz : ys.length ≤ sizeLine) :
    Inv X pins σ (upd H l (.lst ys)) { s with heap := s.heap.update l (Obj.mapSeq f), toks := t' } := by
  have q := PySem.IsL.update e f
  rw [hf] at q
  refine I.write (x := l) (e := l) (by rw [hH]; exact trivial) (.inl rfl) (fun b' u hb hu => (Heap.get?_update_other s.heap (Obj.mapSeq f) (Ne.symm hb)).trans hu) ⟨_, q⟩ ?_
  exact ⟨hz, its', _, hv, q⟩
theorem Inv.lnew {its : List Value} {t' : Nat} (I : Inv X pins σ H s) (hv : Vals ys its) (hz : ys.length ≤ sizeLine) :
    Inv X pins σ (upd H s.heap.objs.size (.lst ys)) { s with heap := s.heap.push { cls := .type "list", data := .seq its.toArray }, toks := t' } :=
  I.laid (fun _ _ q => Heap.get?_push_of_some _ q) (Nat.le_refl _) ⟨hz, its, 0, hv, Heap.get?_push_size _ rfl⟩
theorem Inv.fresh (I : Inv X pins σ H s) : H s.heap.objs.size = none := I.hok.fresh (Nat.le_refl _)
theorem Inv.lstM (I : Inv X pins σ H s) (hH : H l = some (.lst xs)) : xs.length ≤ sizeLine ∧ ∃ (its : List Value) (n : Nat), Vals xs its ∧ xs.length = its.length ∧ s.heap.get? l = some { cls := .type "list", data := .seq its.toArray n } := by
  obtain ⟨z, its, n, r, e⟩ := I.hok l _ hH
  exact ⟨z, its, n, r, r.length, e⟩
theorem notLongL {n : Nat} (h : n ≤ sizeLine) : Builtin.List.listTooLong n = false := by
  unfold Builtin.List.listTooLong
  exact decide_eq_false (by omega)
end
section
variable {X : Cx}
def rAppend : V → List V → Hp → VK → Prop := fun x vs H Q => ∃ l xs y, x = .ref l ∧ vs = [y] ∧ H l = some (.lst xs) ∧ xs.length < sizeLine ∧ Q .non (upd H l (.lst (xs ++ [y])))
theorem mt_append : MtM X "list.append" rAppend := by
  intro pins s σ H x vs v us Q I rx rv h
  obtain ⟨l, xs, y, rfl, rfl, hH, hz, q⟩ := h
  cases rx
  obtain ⟨u, rfl, ru⟩ := rv.one
  obtain ⟨z, its, n, r, hl, e⟩ := I.lstM hH
  refine call_meets F.slot_list_append ⟨_, e, rfl⟩ F.entry_list_append (F.args_list_append_2 _ _) (PySem.list_append l its.toArray n u (by rw [List.size_toArray]; omega)) ⟨e, ?_⟩
  refine ⟨.non, _, I.lset (its' := its ++ [u]) hH e (by simp) (r.append (.cons ru .nil)) ?_, rfl, q⟩
  rw [List.length_append, List.length_singleton]
  omega
def rExtend : V → List V → Hp → VK → Prop := fun x vs H Q => ∃ l b xs zs, x = .ref l ∧ vs = [.ref b] ∧ H l = some (.lst xs) ∧ H b = some (.lst zs) ∧ xs.length + zs.length ≤ sizeLine ∧ Q .non (upd H l (.lst (xs ++ zs)))
theorem mt_extend : MtM X "list.extend" rExtend := by
  intro pins s σ H x vs v us Q I rx rv h
  obtain ⟨l, b, xs, zs, rfl, rfl, hH, hB, hz, q⟩ := h
  cases rx
  obtain ⟨u, rfl, ru⟩ := rv.one
  cases ru
  obtain ⟨z, its, n, r, hl, e⟩ := I.lstM hH
  obtain ⟨z2, its2, n2, r2, hl2, e2⟩ := I.lstM hB
  have hsz : its.toArray.size + its2.toArray.size ≤ sizeLine := by rw [List.size_toArray, List.size_toArray]; omega
  have hlong : ¬ (!its.toArray.isEmpty && Builtin.List.listTooLong (its.toArray.size + its2.toArray.size)) = true := by
    rw [notLongL hsz, Bool.and_false]
    exact Bool.false_ne_true
  refine call_meets F.slot_list_extend ⟨_, e, rfl⟩ F.entry_list_extend (F.args_list_extend_2 _ _)
    (AutoSeq1.list_extend_list_list_0 l its.toArray n b its2.toArray n2 hlong (by rw [List.size_toArray]; omega) (by omega)) ⟨e, e2, ?_⟩
  refine ⟨.non, _, I.lset (its' := its ++ its2) hH e (by simp) (r.append r2) ?_, rfl, q⟩
  rw [List.length_append]
  omega
def rCat : R2 := fun x y H Q => ∃ l b xs zs, x = .ref l ∧ y = .ref b ∧ H l = some (.lst xs) ∧ H b = some (.lst zs) ∧ xs.length + zs.length ≤ sizeLine ∧ ∀ p, H p = none → Q (.ref p) (upd H p (.lst (xs ++ zs)))
theorem op_cat : OpR X (binaryOp .Add) rCat := by
  intro pins s σ H x y v u Q I rx ry h
  obtain ⟨l, b, xs, zs, rfl, rfl, hH, hB, hz, q⟩ := h
  cases rx
  cases ry
  obtain ⟨z, its, n, r, hl, e⟩ := I.lstM hH
  obtain ⟨z2, its2, n2, r2, hl2, e2⟩ := I.lstM hB
  refine PySem.P.add_list e e2 ?_ (by rw [List.size_toArray, List.size_toArray]; omega)
  have ea : its.toArray ++ its2.toArray = (its ++ its2).toArray := by simp
  rw [ea]
  exact ⟨.ref _, _, I.lnew (t' := s.toks) (r.append r2) (by rw [List.length_append]; omega), rfl, q _ I.fresh⟩
end
section
variable {prog : Program} {w : World} {A : Around} {E : Value → Shared → Prop} {s : Shared}
end
section
variable {X : Cx}
end
end L2
namespace L2
open PySem PySem.Spec PyProof.Rows
theorem Vals.ints : ∀ {ns : List Int} {us : List Value}, Vals (ns.map V.int) us → IntsAre us ns
  | [], us, h => by
    rw [List.map_nil] at h
    cases h
    exact IntsAre.nil
  | n :: ns, us, h => by
    rw [List.map_cons] at h
    cases h with
    | cons r t =>
      obtain ⟨k, rfl⟩ := r
      exact IntsAre.cons n k (Vals.ints t)
theorem vals_of_ints : ∀ {us : List Value} {ns : List Int}, IntsAre us ns → Vals (ns.map V.int) us
  | _, _, .nil => by rw [List.map_nil]; exact Paired.nil
  | _, _, .cons n t h => by rw [List.map_cons]; exact Paired.cons (show RelV (V.int n) (Value.int n t) from ⟨t, rfl⟩) (vals_of_ints h)
theorem Vals.strs : ∀ {xs : List Str} {us : List Value}, Vals (xs.map V.str) us → StrsAre us xs
  | [], us, h => by
    rw [List.map_nil] at h
    cases h
    exact StrsAre.nil
  | x :: xs, us, h => by
    rw [List.map_cons] at h
    cases h with
    | cons r t =>
      obtain ⟨k, rfl⟩ := r
      exact StrsAre.cons x k (Vals.strs t)
theorem Vals.ref1 {a : Addr} {us : List Value} (r : Vals [V.ref a] us) : us = [Value.ref a] := by
  cases r with
  | cons r t =>
    cases t
    cases r
    rfl
section
variable {prog : Program} {w : World} {A : Around} {E : Value → Shared → Prop} {s : Shared} {l : Addr} {its : List Value} {ns : List Int} {Q : Value → Shared → Prop}
end
section
variable {X : Cx}
theorem small64 {n : Nat} (h : n < 64) : n ≤ sizeLine := by rw [sizeLine_eq]; omega
end
section
variable {X : Cx}
end
section
variable {X : Cx}
end
section
variable {X : Cx}
end
mutual
inductive Dp (K : PySem.W.Frag) (H : Hp) : V → PyData → Prop
  | non : Dp K H .non .none
  | bl (b : Bool) : Dp K H (.bl b) (.bool b)
  | int (i : Int) : Dp K H (.int i) (.int i)
  | str (x : Str) : Dp K H (.str x) (.str x)
  | lst {a : Addr} {xs : List V} {ds : List PyData} : SqL K H a xs → DpAll K H xs ds → Dp K H (.ref a) (.list ds)
  | tup {a : Addr} {xs : List V} {ds : List PyData} : SqT K H a xs → DpAll K H xs ds → Dp K H (.ref a) (.tuple ds)
inductive DpAll (K : PySem.W.Frag) (H : Hp) : List V → List PyData → Prop
  | nil : DpAll K H [] []
  | cons {v : V} {vs : List V} {d : PyData} {ds : List PyData} : Dp K H v d → DpAll K H vs ds → DpAll K H (v :: vs) (d :: ds)
end
section
variable {X : Cx} {pins : List (Addr × Obj)} {σ : St} {H : Hp} {s : Shared}
mutual
theorem Dp.reads (I : Inv X pins σ H s) : ∀ (d : PyData) (v : V) (u : Value), Dp X.K H v d → RelV v u → ∃ as, Reads s.heap u d as
  | .none, _, _, h, r => by
    cases h
    cases r
    exact ⟨_, Reads.none⟩
  | .bool b, _, _, h, r => by
    cases h
    cases r
    exact ⟨_, Reads.bool b⟩
  | .int i, _, _, h, r => by
    cases h
    obtain ⟨t, rfl⟩ := r
    exact ⟨_, Reads.int i t⟩
  | .str x, _, _, h, r => by
    cases h
    obtain ⟨t, rfl⟩ := r
    exact ⟨_, Reads.str x t⟩
  | .list ds, _, _, h, r => by
    cases h with
    | lst hs ha =>
      cases r
      obtain ⟨its, rv, ⟨o, n, ho, hc, _, hd⟩, _⟩ := I.list hs
      obtain ⟨as, hr⟩ := Dp.readsAll I ds _ its ha rv
      exact ⟨_, Reads.list ho hc hd hr⟩
  | .tuple ds, _, _, h, r => by
    cases h with
    | tup hs ha =>
      cases r
      obtain ⟨its, rv, ⟨o, ho, hc, n, hd⟩, _⟩ := I.tuple hs
      obtain ⟨as, hr⟩ := Dp.readsAll I ds _ its ha rv
      exact ⟨_, Reads.tuple ho hc hd hr⟩
  | .dict _, _, _, h, _ => by cases h
theorem Dp.readsAll (I : Inv X pins σ H s) : ∀ (ds : List PyData) (vs : List V) (us : List Value), DpAll X.K H vs ds → Vals vs us → ∃ as, ReadsAll s.heap us ds as
  | [], _, _, h, r => by
    cases h
    cases r
    exact ⟨_, ReadsAll.nil⟩
  | d :: ds, _, _, h, r => by
    cases h with
    | cons h1 h2 =>
      cases r with
      | cons r1 r2 =>
        obtain ⟨as, q1⟩ := Dp.reads I d _ _ h1 r1
        obtain ⟨bs, q2⟩ := Dp.readsAll I ds _ _ h2 r2
        exact ⟨_, ReadsAll.cons q1 q2⟩
end
end
section
variable {X : Cx}
end
end L2
namespace L2
open PySem PySem.Spec PyProof.Rows
section
variable {X : Cx} {pins : List (Addr × Obj)} {σ : St} {H : Hp} {s : Shared}
end
section
variable {X : Cx}
end
end L2
namespace L2
open PySem PySem.Spec PyProof.Rows
section
variable {prog : Program} {w : World} {A : Around} {R : Result → Shared → Prop} {s : Shared} {elt t0 i0 t1 i1 : Expr} {ifs0 ifs1 : List Expr} {scope : Scope} {pos : Pos} {it acc : Value} {env : Env}
end
section
variable {X : Cx}
end
end L2
namespace L2
open PySem PySem.Spec PyProof.Rows
section
variable {κ : Type} [DecidableEq κ]
def valV (kvs : List (κ × V)) (k : κ) : Option V := (kvs.find? fun kv => decide (kv.1 = k)).map (·.2)
def putK (kvs : List (κ × V)) (k : κ) (v : V) : List (κ × V) :=
  if (kvs.any fun kv => decide (kv.1 = k)) = true then kvs.map (fun kv => if kv.1 = k then (kv.1, v) else kv) else kvs ++ [(k, v)]
def dropK (kvs : List (κ × V)) (k : κ) : List (κ × V) := kvs.filter fun kv => decide (kv.1 ≠ k)
theorem valV_pos {p : κ × V} {r : List (κ × V)} {k : κ} (e : p.1 = k) : valV (p :: r) k = some p.2 := by simp [valV, List.find?_cons, e]
theorem valV_neg {p : κ × V} {r : List (κ × V)} {k : κ} (e : ¬ p.1 = k) : valV (p :: r) k = valV r k := by simp [valV, List.find?_cons, e]
theorem valV_any (k : κ) : ∀ kvs : List (κ × V), (kvs.any fun kv => decide (kv.1 = k)) = (valV kvs k).isSome
  | [] => rfl
  | p :: r => by
    rw [List.any_cons]
    by_cases e : p.1 = k
    · simp only [valV_pos e, decide_eq_true e, Bool.true_or, Option.isSome_some]
    · rw [valV_neg e, decide_eq_false e, Bool.false_or]; exact valV_any k r
theorem valV_map (k j : κ) (y : V) : ∀ kvs : List (κ × V), valV (kvs.map fun kv => if kv.1 = k then (kv.1, y) else kv) j = (valV kvs j).map fun x => if j = k then y else x
  | [] => rfl
  | p :: r => by
    have ih := valV_map k j y r
    rw [List.map_cons]
    by_cases h : p.1 = k
    · rw [if_pos h]
      by_cases e : p.1 = j
      · rw [valV_pos (p := (p.1, y)) e, valV_pos e, Option.map_some, if_pos (e.symm.trans h)]
      · rw [valV_neg (p := (p.1, y)) e, valV_neg e, ih]
    · rw [if_neg h]
      by_cases e : p.1 = j
      · rw [valV_pos (p := p) e, valV_pos e, Option.map_some, if_neg (fun z => h (e.trans z))]
      · rw [valV_neg (p := p) e, valV_neg e, ih]
theorem valV_snoc (k j : κ) (y : V) : ∀ kvs : List (κ × V), valV kvs k = none → valV (kvs ++ [(k, y)]) j = if j = k then some y else valV kvs j
  | [], _ => by
    by_cases e : k = j
    · rw [if_pos e.symm]; exact valV_pos (p := (k, y)) e
    · rw [if_neg (fun z => e z.symm)]; exact valV_neg (p := (k, y)) e
  | p :: r, hn => by
    rw [List.cons_append]
    have hk : ¬ p.1 = k := fun z => by rw [valV_pos z] at hn; cases hn
    rw [valV_neg hk] at hn
    have ih := valV_snoc k j y r hn
    by_cases e : p.1 = j
    · rw [valV_pos e, valV_pos e, if_neg (fun z => hk (e.trans z))]
    · rw [valV_neg e, valV_neg e, ih]
theorem valV_put (kvs : List (κ × V)) (k j : κ) (y : V) : valV (putK kvs k y) j = if j = k then some y else valV kvs j := by
  unfold putK
  by_cases a : (kvs.any fun kv => decide (kv.1 = k)) = true
  · rw [if_pos a, valV_map]
    rw [valV_any] at a
    by_cases e : j = k
    · obtain ⟨x, hx⟩ := Option.isSome_iff_exists.mp a
      rw [if_pos e, e, hx, Option.map_some, if_pos rfl]
    · rw [if_neg e]
      cases valV kvs j with
      | none => rfl
      | some x => rw [Option.map_some, if_neg e]
  · rw [if_neg a]
    refine valV_snoc k j y kvs ?_
    rw [valV_any] at a
    cases q : valV kvs k with
    | none => rfl
    | some x => rw [q] at a; exact (a rfl).elim
theorem length_putK (kvs : List (κ × V)) (k : κ) (v : V) : (putK kvs k v).length ≤ kvs.length + 1 := by
  unfold putK
  split
  · rw [List.length_map]; omega
  · rw [List.length_append, List.length_cons, List.length_nil]; omega
theorem putK_new {kvs : List (κ × V)} {k : κ} (v : V) (h : valV kvs k = none) : putK kvs k v = kvs ++ [(k, v)] := by
  unfold putK
  rw [valV_any, h]
  exact if_neg (by decide)
theorem RelO.isSome_eq {o : Option V} {u : Option Value} (r : RelO o u) : o.isSome = u.isSome := by
  cases o with
  | none => cases u with
    | none => rfl
    | some _ => exact (show False from r).elim
  | some _ => cases u with
    | none => exact (show False from r).elim
    | some _ => rfl
theorem RelO.getD {o : Option V} {u : Option Value} {d : V} {d' : Value} (r : RelO o u) (rd : RelV d d') : RelV (o.getD d) (u.getD d') := by
  cases o with
  | none => cases u with
    | none => exact rd
    | some _ => exact (show False from r).elim
  | some _ => cases u with
    | none => exact (show False from r).elim
    | some _ => exact r
theorem KV.val {kvs : List (κ × V)} {vs : List (κ × Value)} (r : KV kvs vs) (k : κ) : RelO (valV kvs k) (valueAt vs k) := by
  unfold KV at r
  induction r with
  | nil => exact True.intro
  | @cons p q ps qs h t ih =>
    obtain ⟨h1, h2⟩ := h
    by_cases e : p.1 = k
    · have e' : q.1 = k := h1.symm.trans e
      have b : valueAt (q :: qs) k = some q.2 := by simp [valueAt, List.find?_cons, e']
      rw [valV_pos e, b]; exact h2
    · have e' : ¬ q.1 = k := fun z => e (h1.trans z)
      have b : valueAt (q :: qs) k = valueAt qs k := by simp [valueAt, List.find?_cons, e']
      rw [valV_neg e, b]; exact ih
theorem KV.any {kvs : List (κ × V)} {vs : List (κ × Value)} (r : KV kvs vs) (k : κ) : (kvs.any fun kv => decide (kv.1 = k)) = vs.any fun kv => decide (kv.1 = k) := by
  unfold KV at r
  induction r with
  | nil => rfl
  | cons h t ih => rw [List.any_cons, List.any_cons, ih, h.1]
theorem KV.repl {kvs : List (κ × V)} {vs : List (κ × Value)} (r : KV kvs vs) (k : κ) {y : V} {u : Value} (ry : RelV y u) :
    KV (kvs.map fun kv => if kv.1 = k then (kv.1, y) else kv) (vs.map fun kv => if kv.1 = k then (kv.1, u) else kv) := by
  unfold KV at r ⊢
  induction r with
  | nil => exact .nil
  | @cons p q ps qs h t ih =>
    rw [List.map_cons, List.map_cons]
    refine .cons ?_ ih
    obtain ⟨h1, h2⟩ := h
    by_cases e : p.1 = k
    · rw [if_pos e, if_pos (h1.symm.trans e)]; exact ⟨h1, ry⟩
    · rw [if_neg e, if_neg (fun z => e (h1.trans z))]; exact ⟨h1, h2⟩
theorem KV.put {kvs : List (κ × V)} {vs : List (κ × Value)} (r : KV kvs vs) (k : κ) {y : V} {u : Value} (ry : RelV y u) : KV (putK kvs k y) (stored vs k u) := by
  unfold putK stored
  rw [r.any k]
  by_cases e : (vs.any fun kv => decide (kv.1 = k)) = true
  · rw [if_pos e, if_pos e]; exact r.repl k ry
  · rw [if_neg e, if_neg e]; exact Paired.snoc r ⟨rfl, ry⟩
theorem KV.drop {kvs : List (κ × V)} {vs : List (κ × Value)} (r : KV kvs vs) (k : κ) : KV (dropK kvs k) (without vs k) := by
  unfold KV at r ⊢
  unfold dropK without
  induction r with
  | nil => exact .nil
  | @cons p q ps qs h t ih =>
    obtain ⟨h1, h2⟩ := h
    rw [List.filter_cons, List.filter_cons]
    by_cases e : p.1 = k
    · have a : ¬ decide (p.1 ≠ k) = true := by simp [e]
      have b : ¬ decide (q.1 ≠ k) = true := by simp [h1.symm.trans e]
      rw [if_neg a, if_neg b]; exact ih
    · have e' : ¬ q.1 = k := fun z => e (h1.trans z)
      have a : decide (p.1 ≠ k) = true := by simp [e]
      have b : decide (q.1 ≠ k) = true := by simp [e']
      rw [if_pos a, if_pos b]; exact .cons ⟨h1, h2⟩ ih
theorem KV.keys {kvs : List (κ × V)} {vs : List (κ × Value)} (r : KV kvs vs) : kvs.map (·.1) = vs.map (·.1) := by
  unfold KV at r
  induction r with
  | nil => rfl
  | cons h t ih => rw [List.map_cons, List.map_cons, ih, h.1]
theorem KV.length {kvs : List (κ × V)} {vs : List (κ × Value)} (r : KV kvs vs) : kvs.length = vs.length := Paired.length r
end
theorem kV_is {P : Program} {w : World} {k : Key} {u : Value} (r : RelV (kV k) u) : (mixKind P w).is k u = true := by
  cases k with
  | inl i => obtain ⟨t, e⟩ := (show ∃ t, u = Value.int i t from r); subst e; exact mixKind_int P w i t
  | inr x => obtain ⟨t, e⟩ := (show ∃ t, u = Value.str x t from r); subst e; exact mixKind_str P w x t
theorem items_are {P : Program} {w : World} : ∀ {ks : List Key} {us : List Value}, Vals (ks.map kV) us → ItemsAre (mixKind P w) ks us
  | [], _, r => by rw [List.map_nil] at r; cases r; exact .nil
  | k :: ks, _, r => by
    rw [List.map_cons] at r
    cases r with
    | cons h t => exact .cons (kV_is h) (items_are t)
abbrev KT (H : Hp) : List (List Key × V) → List (List Key × Addr × Value) → Prop := Paired fun p q => p.1 = q.1 ∧ H q.2.1 = some (.tup (p.1.map kV)) ∧ RelV p.2 q.2.2
theorem KT.val {H : Hp} {kvs : List (List Key × V)} {xs : List (List Key × Addr × Value)} (r : KT H kvs xs) (k : List Key) : RelO (valV kvs k) ((atKey xs k).map (·.2)) := by
  induction r with
  | nil => exact True.intro
  | @cons p q ps qs h t ih =>
    obtain ⟨h1, _, h2⟩ := h
    by_cases e : p.1 = k
    · have e' : q.1 = k := h1.symm.trans e
      have b : atKey (q :: qs) k = some q.2 := by simp [atKey, List.find?_cons, e']
      rw [valV_pos e, b]; exact h2
    · have e' : ¬ q.1 = k := fun z => e (h1.trans z)
      have b : atKey (q :: qs) k = atKey qs k := by simp [atKey, List.find?_cons, e']
      rw [valV_neg e, b]; exact ih
theorem KT.repl {H : Hp} {kvs : List (List Key × V)} {xs : List (List Key × Addr × Value)} (r : KT H kvs xs) (k : List Key) {y : V} {u : Value} (ry : RelV y u) :
    KT H (kvs.map fun kv => if kv.1 = k then (kv.1, y) else kv) (xs.map (putAt k u)) := by
  induction r with
  | nil => exact .nil
  | @cons p q ps qs h t ih =>
    rw [List.map_cons, List.map_cons]
    refine .cons ?_ ih
    obtain ⟨h1, h2, h3⟩ := h
    unfold putAt
    by_cases e : p.1 = k
    · rw [if_pos e, if_pos (h1.symm.trans e)]; exact ⟨h1, h2, ry⟩
    · rw [if_neg e, if_neg (fun z => e (h1.trans z))]; exact ⟨h1, h2, h3⟩
theorem KT.put {H : Hp} {kvs : List (List Key × V)} {xs : List (List Key × Addr × Value)} (r : KT H kvs xs) (k : List Key) {b : Addr} {y : V} {u : Value} (hb : H b = some (.tup (k.map kV))) (ry : RelV y u) :
    KT H (putK kvs k y) (storedH xs k b u) := by
  have e : (kvs.any fun kv => decide (kv.1 = k)) = (atKey xs k).isSome := by
    rw [valV_any, (r.val k).isSome_eq, Option.isSome_map]
  unfold putK storedH
  rw [e]
  by_cases q : (atKey xs k).isSome = true
  · rw [if_pos q, if_pos q]; exact r.repl k ry
  · rw [if_neg q, if_neg q]; exact Paired.snoc r ⟨rfl, hb, ry⟩
theorem KT.keeps {H H' : Hp} {kvs : List (List Key × V)} {xs : List (List Key × Addr × Value)} (r : KT H kvs xs) (ht : ∀ b ys, H b = some (.tup ys) → H' b = some (.tup ys)) : KT H' kvs xs :=
  Paired.mapP r fun _ _ z => ⟨z.1, ht _ _ z.2.1, z.2.2⟩
section
variable {P : Program} {w : World} {H : Hp} {h : Heap} {a : Addr}
theorem rd_of {u : HO} (ok : HOk P w H h) (e : Rd H a u) : ObjOk P w H h a u := e.ok ok
theorem dk_rd {kvs : List (Key × V)} (ok : HOk P w H h) (e : Rd H a (.dK kvs)) : kvs.length ≤ sizeLine ∧ (a == sysModules) = false ∧ ∃ vs, KV kvs vs ∧ h.DictOf (mixKind P w) a vs :=
  show ObjOk P w H h a (.dK kvs) from rd_of ok e
theorem dk_of {kvs : List (Key × V)} (ok : HOk P w H h) (e : H a = some (.dK kvs)) : kvs.length ≤ sizeLine ∧ (a == sysModules) = false ∧ ∃ vs, KV kvs vs ∧ h.DictOf (mixKind P w) a vs := dk_rd ok (.inl e)
theorem key_of {ks : List Key} (ok : HOk P w H h) (e : H a = some (.tup (ks.map kV))) : (tupleKind (mixKind P w)).is h ks a := by
  obtain ⟨_, its, r, o, h1, h2, n, h3⟩ := (show ObjOk P w H h a (.tup (ks.map kV)) from ok a _ e)
  exact ⟨o, its.toArray, n, h1, h2, h3, by simpa using items_are r⟩
theorem dt_rd {kvs : List (List Key × V)} (ok : HOk P w H h) (e : Rd H a (.dT kvs)) : kvs.length ≤ sizeLine ∧ (a == sysModules) = false ∧
    ∃ xs, KT H kvs xs ∧ h.DictOfH (tupleKind (mixKind P w)) a xs := by
  obtain ⟨z, y, xs, r, o, es, ep, h1, h2, h3, h4, h5⟩ := (show ObjOk P w H h a (.dT kvs) from rd_of ok e)
  refine ⟨z, y, xs, r, o, es, ep, h1, h2, h3, h4, fun x hx => ?_, h5⟩
  have all : ∀ {l : List (List Key × V)} {m : List (List Key × Addr × Value)}, KT H l m → ∀ x ∈ m, (tupleKind (mixKind P w)).is h x.1 x.2.1 := by
    intro l m q
    induction q with
    | nil => intro x hx; exact nomatch hx
    | @cons p q ps qs hq t ih =>
      intro x hx
      rcases List.mem_cons.mp hx with e | hx
      · subst e
        exact key_of ok (by rw [← hq.1]; exact hq.2.1)
      · exact ih x hx
  exact all r x hx
theorem dt_of {kvs : List (List Key × V)} (ok : HOk P w H h) (e : H a = some (.dT kvs)) : kvs.length ≤ sizeLine ∧ (a == sysModules) = false ∧
    ∃ xs, KT H kvs xs ∧ h.DictOfH (tupleKind (mixKind P w)) a xs := dt_rd ok (.inl e)
end
def DGet (H : Hp) (a : Addr) (y : V) (r : Option V) : Prop :=
  (∃ kvs k, Rd H a (.dK kvs) ∧ y = kV k ∧ r = valV kvs k) ∨ ∃ kvs k b, Rd H a (.dT kvs) ∧ y = .ref b ∧ H b = some (.tup (k.map kV)) ∧ r = valV kvs k
def DPut (H : Hp) (a : Addr) (y v : V) (H' : Hp) : Prop :=
  (∃ kvs k, H a = some (.dK kvs) ∧ y = kV k ∧ kvs.length < sizeLine ∧ H' = upd H a (.dK (putK kvs k v))) ∨
  ∃ kvs k b, H a = some (.dT kvs) ∧ y = .ref b ∧ H b = some (.tup (k.map kV)) ∧ kvs.length < sizeLine ∧ H' = upd H a (.dT (putK kvs k v))
theorem DGet.k {H : Hp} {a : Addr} {kvs : List (Key × V)} {k : Key} (e : H a = some (.dK kvs)) : DGet H a (kV k) (valV kvs k) := .inl ⟨kvs, k, .inl e, rfl, rfl⟩
theorem DGet.t {H : Hp} {a b : Addr} {kvs : List (List Key × V)} {k : List Key} (e : H a = some (.dT kvs)) (eb : H b = some (.tup (k.map kV))) : DGet H a (.ref b) (valV kvs k) := .inr ⟨kvs, k, b, .inl e, rfl, eb, rfl⟩
theorem DPut.k {H : Hp} {a : Addr} {kvs : List (Key × V)} {k : Key} {v : V} (e : H a = some (.dK kvs)) (hl : kvs.length < sizeLine) : DPut H a (kV k) v (upd H a (.dK (putK kvs k v))) := .inl ⟨kvs, k, e, rfl, hl, rfl⟩
theorem DPut.t {H : Hp} {a b : Addr} {kvs : List (List Key × V)} {k : List Key} {v : V} (e : H a = some (.dT kvs)) (eb : H b = some (.tup (k.map kV))) (hl : kvs.length < sizeLine) :
    DPut H a (.ref b) v (upd H a (.dT (putK kvs k v))) := .inr ⟨kvs, k, b, e, rfl, eb, hl, rfl⟩
section
variable {X : Cx} {pins : List (Addr × Obj)} {σ : St} {H : Hp} {s : Shared} {a : Addr} {y v : V} {u r : Value} {o : Option V} {A : Around} {E : Value → Shared → Prop}
theorem Inv.big (I : Inv X pins σ H s) : sysModules < s.heap.objs.size := by
  have h : mainGlobals < s.heap.objs.size := (I.mod.glob.keeps I.bk).lt
  exact Nat.lt_trans (by decide) h
theorem d_getItem {Q : Value → Shared → Prop} (hu : A.units + 1 < cLine) (I : Inv X pins σ H s) (g : DGet H a y (some v)) (ry : RelV y u) (h : ∀ w' s', Inv X pins σ H s' → RelV v w' → Q w' s') :
    wpAny (model X.prog X.w) A (getItem (.ref a) u) Q E s := by
  rcases g with ⟨kvs, k, e, ey, l⟩ | ⟨kvs, k, b, e, ey, eb, l⟩
  · subst ey
    obtain ⟨z, hd, vs, rel, dd⟩ := dk_rd I.hok e
    obtain ⟨w', hw, rw'⟩ := RelO.some_of (v := v) (o := valueAt vs k) (by rw [l]; exact rel.val k)
    exact wpAny_getItem_of (kV_is ry) dd.mapOf hw (h w' _ (I.tok _) rw')
  · subst ey
    cases (show u = Value.ref b from ry)
    obtain ⟨z, hd, xs, rel, dd⟩ := dt_rd I.hok e
    obtain ⟨w', hw, rw'⟩ := RelO.some_of (v := v) (o := (atKey xs k).map (·.2)) (by rw [l]; exact rel.val k)
    obtain ⟨p, hp, hp2⟩ := Option.map_eq_some_iff.mp hw
    refine wpAny_getItem_heap (tupleKind_room_in1 hu) (key_of I.hok eb) dd hp ?_
    rw [hp2]
    exact h w' _ (I.tok _) rw'
theorem d_notIn {Q : Value → Shared → Prop} (hu : A.units + 1 < cLine) (I : Inv X pins σ H s) (g : DGet H a y o) (ry : RelV y u) (h : ∀ s', Inv X pins σ H s' → Q (.bool (!o.isSome)) s') :
    wpAny (model X.prog X.w) A (compareOp .NotIn u (.ref a)) Q E s := by
  rcases g with ⟨kvs, k, e, ey, l⟩ | ⟨kvs, k, b, e, ey, eb, l⟩
  · subst ey
    obtain ⟨z, hd, vs, rel, dd⟩ := dk_rd I.hok e
    refine wpAny_notIn_of (kV_is ry) hd dd.mapOf ?_
    rw [← (rel.val k).isSome_eq, ← l]
    exact h _ (I.tok _)
  · subst ey
    cases (show u = Value.ref b from ry)
    obtain ⟨z, hd, xs, rel, dd⟩ := dt_rd I.hok e
    refine wpAny_notIn_heap (tupleKind_room_in1 hu) (key_of I.hok eb) hd dd ?_
    have q := (rel.val k).isSome_eq
    rw [Option.isSome_map] at q
    rw [← q, ← l]
    exact h _ (I.tok _)
theorem d_write {h' : Heap} {t' : Nat} {ob : HO} (I : Inv X pins σ H s) (mu : Mut (H a)) (hs : Heap.SameBut a s.heap h') (he : ∃ q, h'.get? a = some q) (new : ObjOk X.prog X.w (upd H a ob) h' a ob) :
    Inv X pins σ (upd H a ob) { s with heap := h', toks := t' } :=
  I.write (x := a) (e := a) mu (.inl rfl) (fun b q hb z => (hs.2 b hb).trans z) he new
theorem dk_new {P : Program} {w : World} {H' : Hp} {h' : Heap} {kvs : List (Key × V)} {vs : List (Key × Value)} (z : kvs.length ≤ sizeLine) (hd : (a == sysModules) = false) (rel : KV kvs vs) (dd : h'.DictOf (mixKind P w) a vs) :
    ObjOk P w H' h' a (.dK kvs) := ⟨z, hd, vs, rel, dd⟩
theorem d_setItem {H' : Hp} {Q : Unit → Shared → Prop} (hu : A.units + 1 < cLine) (I : Inv X pins σ H s) (g : DPut H a y v H') (ry : RelV y u) (rv : RelV v r) (h : ∀ s', Inv X pins σ H' s' → Q () s') :
    wpAny (model X.prog X.w) A (setItem (.ref a) u r) Q E s := by
  rcases g with ⟨kvs, k, e, ey, l, eH⟩ | ⟨kvs, k, b, e, ey, eb, l, eH⟩
  · subst ey eH
    obtain ⟨z, hd, vs, rel, dd⟩ := dk_of I.hok e
    have hz : vs.length ≤ sizeLine := by rw [← rel.length]; exact z
    have hl : (putK kvs k v).length ≤ sizeLine := by have := length_putK kvs k v; omega
    refine wpAny_setItem_pairs (hsz := hz) (kV_is ry) dd fun h' dd' hs => h _ ?_
    have he : ∃ q, h'.get? a = some q := let ⟨q, _, _, hq, _⟩ := dd'; ⟨q, hq⟩
    exact d_write I (by rw [e]; exact True.intro) hs he (dk_new hl hd (rel.put k rv) dd')
  · subst ey eH
    cases (show u = Value.ref b from ry)
    obtain ⟨z, hd, xs, rel, dd⟩ := dt_of I.hok e
    have hz : xs.length ≤ sizeLine := by rw [← Paired.length rel]; exact z
    have hl : (putK kvs k v).length ≤ sizeLine := by have := length_putK kvs k v; omega
    refine wpAny_setItem_heap (hsz := hz) (tupleKind_room_in1 hu) (key_of I.hok eb) dd fun h' dd' hs => h _ ?_
    obtain ⟨q, es, ep, hq, h2, h3, h4, _, h5⟩ := dd'
    refine d_write I (by rw [e]; exact True.intro) hs ⟨q, hq⟩ ⟨hl, hd, _, (rel.put k eb rv).keeps fun c ys ec => ?_, q, es, ep, hq, h2, h3, h4, h5⟩
    rw [upd_ne (ne_of ec e (fun z => nomatch z))]
    exact ec
end
section
variable {X : Cx} {pins : List (Addr × Obj)} {σ : St} {H : Hp} {s : Shared} {a : Addr} {kvs : List (Key × V)} {k : Key} {u : Value} {A : Around} {E : Value → Shared → Prop}
theorem d_len {Q : Value → Shared → Prop} (I : Inv X pins σ H s) (e : Rd H a (.dK kvs)) (h : ∀ t s', Inv X pins σ H s' → Q (.int kvs.length t) s') : wpAny (model X.prog X.w) A (call (.builtin "len") [.ref a]) Q E s := by
  obtain ⟨z, hd, vs, rel, dd⟩ := dk_rd I.hok e
  refine call_len_dict hd dd (by rw [← rel.length]; rw [sizeLine_eq] at z; omega) ?_
  rw [← rel.length]
  exact h _ _ (I.tok _)
end
def NoSl (i : Expr) : Prop := ∀ ov iv, subscripted i false ov iv = operate [ov, iv] (getItem ov iv)
theorem subD_of {prog : Program} {w : World} {A : Around} {E : Value → Shared → Prop} {s : Shared} {env : Env} {value slice : Expr} {pos : Pos} {T id : String} {Q : Value → Shared → Prop}
    (hl : typeLookup (.type T) "__getitem__" = pure (some (.builtin id))) (hs : NoSl slice)
    (h : wpAny (model prog w) A (eval value env) (fun o s₁ => wpAny (model prog w) A (eval slice env) (fun i s₂ => s₂.TypeIs o T ∧ wpAny (model prog w) A (getItem o i) Q E s₂) E s₁) E s) :
    wpAny (model prog w) A (eval (.Subscript value slice pos) env) Q E s := by
  refine Subscript_ (wpAny_mono h (fun o s₁ h₁ => wpAny_mono h₁ (fun i s₂ h₂ => ?_) fun _ _ x => x) fun _ _ x => x)
  obtain ⟨hT, h₂⟩ := h₂
  unfold subscriptTail
  refine wpAny_bind ?_
  rw [getitemInPython_of_ne hT.not_modules]
  refine wpAny_bind (wpAny_specialOf hT hl ?_)
  have fin : wpAny (model prog w) A (subscripted slice false o i) (fun r s₃ => wpAny (model prog w) A (letTemporaryGo value o r >>= fun _ => pure r) Q E s₃) E s₂ := by
    rw [hs o i]
    exact wpAny_operating (wpAny_mono h₂ (fun r s₃ h₃ => wpAny_bind (wpAny_letTemporaryGo (wpAny_pure h₃))) fun _ _ x => x)
  first
    | exact wpAny_pure (wpAny_bind fin)
    | exact wpAny_bind (wpAny_pure (wpAny_bind fin))
    | exact wpAny_bind fin
theorem dict_typeIs {X : Cx} {pins : List (Addr × Obj)} {σ : St} {H : Hp} {s : Shared} {a : Addr} {y : V} {o : Option V} (I : Inv X pins σ H s) (g : DGet H a y o) : s.TypeIs (.ref a) "dict" := by
  rcases g with ⟨kvs, k, e, _, _⟩ | ⟨kvs, k, b, e, _, _, _⟩
  · obtain ⟨_, _, vs, _, dd⟩ := dk_rd I.hok e
    exact dd.typeIs
  · obtain ⟨_, _, xs, _, dd⟩ := dt_rd I.hok e
    exact dd.typeIs
def tDGet (td ty : TE) : TE := fun σ H Q => td σ H fun x H1 => ty σ H1 fun y H2 => ∃ a v, x = .ref a ∧ DGet H2 a y (some v) ∧ Q v H2
def tDNotIn (ty td : TE) : TE := fun σ H Q => ty σ H fun y H1 => td σ H1 fun x H2 => ∃ a o, x = .ref a ∧ DGet H2 a y o ∧ Q (.bl (!o.isSome)) H2
def sDPut (td ty tv : TE) : TS := fun D σ H => tv σ H fun v H1 => td σ H1 fun x H2 => ty σ H2 fun y H3 => ∃ a H4, x = .ref a ∧ DPut H3 a y v H4 ∧ D.nx σ H4
section
variable {X : Cx} {o i e value : Expr} {pos pos' tpos : Pos} {td ty tv : TE}
theorem pe_dget (hu : X.A.units + 1 < cLine) (ho : PE X o td) (hi : PE X i ty) (hs : NoSl i) : PE X (.Subscript o i pos) (tDGet td ty) := by
  intro pins s σ H Q I h
  refine subD_of PySem.F.slot_dict_getitem.lookup hs (thn (ho pins s σ H _ I h) fun u s1 ⟨x, H1, I1, rx, q1⟩ => thn (hi pins s1 σ H1 _ I1 q1) fun iv s2 ⟨y, H2, I2, ry, a, v, ex, g, q2⟩ => ?_)
  subst ex
  obtain rfl : u = Value.ref a := rx
  exact ⟨dict_typeIs I2 g, d_getItem hu I2 g ry fun w' s3 I3 rw' => ⟨v, H2, I3, rw', q2⟩⟩
theorem pc_dnotin (hu : X.A.units + 1 < cLine) (hi : PE X i ty) (ho : PE X o td) : PC X .NotIn i o (tDNotIn ty td) := by
  intro pins s σ H Q I h
  refine thn (hi pins s σ H _ I h) fun iv s1 ⟨y, H1, I1, ry, q1⟩ => thn (ho pins s1 σ H1 _ I1 q1) fun u s2 ⟨x, H2, I2, rx, a, ov, ex, g, q2⟩ => ?_
  subst ex
  obtain rfl : u = Value.ref a := rx
  exact d_notIn hu I2 g ry fun s3 I3 => ⟨.bl (!ov.isSome), H2, I3, rfl, q2⟩
theorem ps_dput (hu : X.A.units + 1 < cLine) (ho : PE X o td) (hi : PE X i ty) (hv : PE X value tv) (hs : swapsWith value (some (.Subscript o i pos')) pos.line X.env = pure false) :
    PS X (.Assign [.Subscript o i pos'] value pos) (sDPut td ty tv) := by
  intro pins s σ H D I h
  refine wpAny_Assign_Subscript (thn (hv pins s σ H _ I h) fun r s1 ⟨v, H1, I1, rv, q1⟩ => thn (ho pins s1 σ H1 _ I1 q1) fun u s2 ⟨x, H2, I2, rx, q2⟩ => thn (hi pins s2 σ H2 _ I2 q2) fun iv s3 ⟨y, H3, I3, ry, a, H4, ex, g, q3⟩ => ?_) hs
  subst ex
  obtain rfl : u = Value.ref a := rx
  exact d_setItem hu I3 g ry rv fun s4 I4 => ⟨σ, H4, I4, q3⟩
end
theorem dk_empty {P : Program} {w : World} {H : Hp} (h : Heap) (hb : sysModules < h.objs.size) : ObjOk P w H (h.push { cls := .type "dict", data := .dict #[] }) h.objs.size (.dK []) :=
  ⟨Nat.zero_le _, beq_eq_false_iff_ne.mpr (Ne.symm (Nat.ne_of_lt hb)), [], .nil, Heap.DictOf.new h⟩
def tDNewK : TE := fun _ H Q => ∀ p, H p = none → Q (.ref p) (upd H p (.dK []))
section
variable {X : Cx} {pos : Pos}
theorem pe_dnewK : PE X (.Dict [] [] pos) tDNewK := fun pins s σ H Q I h =>
  wpAny_Dict_empty ⟨.ref s.heap.objs.size, _, I.laid (a := s.heap.objs.size) (o := .dK []) (t' := s.toks) (fun _ _ q => Heap.get?_push_of_some _ q) (Nat.le_refl _) (dk_empty s.heap I.big), rfl, h _ (I.hok.fresh (Nat.le_refl _))⟩
end
section
variable {X : Cx} {pins : List (Addr × Obj)} {σ : St} {H : Hp} {s : Shared} {a : Addr} {y d : V} {u r : Value} {o : Option V} {A : Around} {E : Value → Shared → Prop}
end
section
variable {X : Cx} {o e f : Expr} {apos cpos : Pos} {td ty tx : TE}
end
section
variable {X : Cx} {pins : List (Addr × Obj)} {σ : St} {H : Hp} {s : Shared} {a : Addr} {kvs : List (Key × V)} {A : Around} {E : Value → Shared → Prop}
end
section
variable {X : Cx} {pins : List (Addr × Obj)} {σ : St} {H : Hp} {s : Shared} {a : Addr} {y : V} {u : Value} {A : Around} {E : Value → Shared → Prop}
end
end L2
namespace L2
open PySem PySem.Spec PyProof.Rows
section
variable {prog : Program} {w : World} {A : Around} {E : Value → Shared → Prop}
end
section
variable {X : Cx}
end
end L2
namespace L2
open PySem PySem.Spec PyProof.Rows
section
variable {X : Cx} {pins : List (Addr × Obj)} {σ : St} {H : Hp} {s : Shared} {h' : Heap}
end
section
variable {X : Cx}
end
section
variable {X : Cx} {tg : Expr}
end
section
variable {X : Cx} {tg : Expr}
end
section
variable {prog : Program} {w : World} {A : Around} {E : Value → Shared → Prop} {s : Shared}
end
section
variable {X : Cx} {pins : List (Addr × Obj)} {σ : St} {H : Hp} {s : Shared} {d : Addr} {o : Obj}
end
section
variable {P : Program} {w : World} {K : PySem.W.Frag} {tg : Expr} {d : Addr} {o : Obj} {es : Array DictEntry} {ep : Nat}
end
section
variable {X : Cx} {tg e : Expr} {td : TE} {apos cpos : Pos}
end
end L2
section 
namespace Bits
open PySem PyProof.Rows
end Bits
end 
section 
namespace TL
open PySem PySem.Builtin PySem.Builtin.Str PySem.StrLaws
abbrev tl (x : Str) : List Nat := x.cps.toList
def pre (S l : List Nat) : Bool := l.take S.length == S
def par (S : List Nat) : List Nat → List Nat → Option (List Nat × List Nat)
  | _, [] => none
  | acc, c :: r => if pre S (c :: r) = true then some (acc, (c :: r).drop S.length) else par S (acc ++ [c]) r
end TL
end 
namespace L2
open PySem PySem.Spec PyProof.Rows
section
variable {X : Cx} {pins : List (Addr × Obj)} {σ : St} {H : Hp} {s : Shared} {Q : VK}
end
section
variable {X : Cx}
end
section
variable {X : Cx} {o e : Expr} {to te : TE}
end
end L2
namespace L2
open PySem PySem.Spec PyProof.Rows
section
variable {X : Cx}
end
theorem IsPart.raw {v : Value} {o : Option Int} (p : IsPart v o) : ∃ l : Option (Int × Tok), v = partValue l ∧ l.map (·.1) = o := by
  cases p with
  | none => exact ⟨none, rfl, rfl⟩
  | int i t => exact ⟨some (i, t), rfl, rfl⟩
end L2
namespace Att
open PySem PySem.W PySem.Calls PyProof.Rows
section
variable {prog : Program} {w : World} {A : Around} {E : Value → Shared → Prop} {s : Shared} {K : Frag}
end
end Att
namespace L2
open PySem PySem.Spec PyProof.Rows
end L2
namespace L2
open PySem PySem.Spec PyProof.Rows
end L2
namespace L2
open PySem PySem.Spec PyProof.Rows
def inClass (s : Stmt) (j : Nat) : Stmt := match s with
  | .ClassDef _ _ _ body _ _ _ _ _ _ _ => body.getD j (.Pass ⟨0, 0, 0, 0⟩)
  | _ => .Pass ⟨0, 0, 0, 0⟩
def defArgs (s : Stmt) : Arguments := match s with
  | .FunctionDef _ a _ _ _ _ _ _ _ _ => a
  | _ => { posonlyargs := [], args := [], vararg := none, kwonlyargs := [], kw_defaults := [], kwarg := none, defaults := [] }
def defBody (s : Stmt) : List Stmt := match s with
  | .FunctionDef _ _ b _ _ _ _ _ _ _ => b
  | _ => []
def defScope (s : Stmt) : Scope := match s with
  | .FunctionDef _ _ _ _ _ _ sc _ _ _ => sc
  | _ => { kind := .function, names := [], isGenerator := false, isCoroutine := false }
abbrev CX0 : CXT := fun _ _ _ _ _ _ => False
abbrev E0 : XK := fun _ _ _ => False
theorem pass0 {X : Cx} : Passes CX0 X E0 := fun _ _ _ _ _ _ _ h => h.elim
structure Fun (K : PySem.W.Frag) (x qual : Str) (st : Stmt) (f : Addr) (fd : FuncData) : Prop where
  ex : ∃ (oc : Value) (od : Option Addr) (kV doc pm : Value) (an : Option Addr) (cdv ct : Value) (osl : Array (Option Value)),
    fd = PySem.W.fnOf x qual (defArgs st) (defBody st) (defScope st) .none kV doc pm an cdv ct ∧ K.lookup f = some ⟨oc, od, .func fd, osl⟩ ∧ PySem.W.codeIn K cdv qual = true
  kp : PySem.W.keepIn K (.ref f) = true
section
variable {P : Program} {w : World} {K : PySem.W.Frag} {mg : Str → Option Value} {base : Heap}
theorem Fun.ok {x qual : Str} {st : Stmt} {f : Addr} {fd : FuncData} {N ps : List Str} {k : Nat} {sp : Sp} (F : Fun K x qual st f fd) (S : FnScope N ps (defScope st)) (len : ∀ vs H Q E, sp vs H Q E → vs.length = ps.length)
    (hbody : ∀ (cdv : Value) (A : Around) (outer : List Env) (s : Shared) (H : Hp) (vs : List V) (Q : VK) (E : XK), Room k (A.deeper (envOfC qual (defScope st) s.heap.objs.size f cdv)) → sp vs H Q E →
      ∃ t, PSs (cxOf CX0 P w K mg base N qual (defScope st) f cdv A outer s H E).nox (defBody st) t ∧ t { nx := fun _ H' => Q .non H', rt := Q } (start N vs) H) : FnOk P w K mg base CX0 (k + 1) f fd ps sp := by
  obtain ⟨oc, od, kV, doc, pm, an, cdv, ct, osl, rfl, lk, hcd⟩ := F.ex
  refine fn_of lk hcd S len fun A outer s H vs Q E hr hsp => ?_
  obtain ⟨t, h, q⟩ := hbody cdv A outer s H vs Q E hr hsp
  exact ⟨t, h.nox, q⟩
theorem Fun.binds {x qual : Str} {st : Stmt} {f : Addr} {fd : FuncData} {ps : List Str} (F : Fun K x qual st f fd)
    (h : ∀ (kV doc pm : Value) (an : Option Addr) (cdv ct : Value) (us : List Value), us.length = ps.length → bindArgs (PySem.W.fnOf x qual (defArgs st) (defBody st) (defScope st) .none kV doc pm an cdv ct) ⟨us, []⟩ = pure (ps.zip us)) : Binds K fd ps [] := by
  obtain ⟨oc, od, kV, doc, pm, an, cdv, ct, osl, rfl, lk, hcd⟩ := F.ex
  exact .all (h kV doc pm an cdv ct)
theorem fun_mk {x qual : Str} {st : Stmt} {f : Addr} {oc : Value} {od an : Option Addr} {osl : Array (Option Value)} {kV doc pm cdv ct : Value} (l : K.lookup f = some ⟨oc, od, .func (PySem.W.fnOf x qual (defArgs st) (defBody st) (defScope st) .none kV doc pm an cdv ct), osl⟩)
    (c : PySem.W.codeIn K cdv qual = true) (k : PySem.W.keepIn K (.ref f) = true) : Fun K x qual st f (PySem.W.fnOf x qual (defArgs st) (defBody st) (defScope st) .none kV doc pm an cdv ct) := ⟨⟨oc, od, kV, doc, pm, an, cdv, ct, osl, rfl, l, c⟩, k⟩
end
theorem hu_of {A : Around} {k : Nat} (hr : Room k A) : A.units + 1 < cLine := Nat.lt_of_le_of_lt (Nat.add_le_add_left (by decide : 1 ≤ 64) _) hr.units
section
variable {X : Cx}
theorem pv (i : Nat) {x : Str} {pos : Pos} (hN : X.N[i]? = some x := by rfl) (hv : Vis X.env.scope x := by first | exact Or.inl rfl | exact Or.inr (Or.inl rfl) | exact Or.inr (Or.inr rfl)) (hd : (x == ("__debug__" : Str)) = false := by decide)
    (hcd : (x == ("__classdict__" : Str)) = false := by decide) : PE X (.Name x pos) (tVar i) := pe_var hN hv hd hcd
theorem call_lenD : CallR X (.builtin "len") (fun xs H Q => ∃ a kvs, xs = [V.ref a] ∧ H a = some (.dK kvs) ∧ Q (.int kvs.length) H) := by
  intro pins s σ H xs us Q I r h
  obtain ⟨a, kvs, rfl, ha, q⟩ := h
  obtain ⟨u, rfl, ru⟩ := vals1 r
  cases ru
  exact d_len I (.inl ha) fun t s' I' => ⟨.int kvs.length, H, I', ⟨t, rfl⟩, q⟩
end
theorem iteF {A B : Prop} (h : B) : if false = true then A else B := by
  rw [if_neg Bool.false_ne_true]
  exact h
theorem iteT {A B : Prop} (h : A) : if true = true then A else B := by
  rw [if_pos rfl]
  exact h
def Same (H H' : Hp) : Prop := ∀ b o, H b = some o → H' b = some o
theorem Same.refl (H : Hp) : Same H H := fun _ _ h => h
theorem Same.trans {H H1 H2 : Hp} (a : Same H H1) (b : Same H1 H2) : Same H H2 := fun c o h => b c o (a c o h)
theorem Same.free {H H' : Hp} (e : Same H H') {l : Addr} (h : H' l = Option.none) : H l = Option.none := by
  cases q : H l with
  | none => rfl
  | some o =>
    rw [e l o q] at h
    cases h
theorem Same.seq {K : PySem.W.Frag} {H H' : Hp} {a : Addr} {xs : List V} (e : Same H H') (h : SqL K H a xs) : SqL K H' a xs := by
  rcases h with (h | ⟨o, h⟩) | h
  · exact .inl (.inl (e _ _ h))
  · exact .inl (.inr ⟨o, e _ _ h⟩)
  · exact .inr h
section
variable {κ : Type} [DecidableEq κ]
theorem valV_in {kvs : List (κ × V)} {k : κ} {v : V} (h : valV kvs k = some v) : k ∈ kvs.map (·.1) := by
  have q : (kvs.any fun kv => decide (kv.1 = k)) = true := by
    rw [valV_any, h]
    all_goals rfl
  obtain ⟨p, hp, e⟩ := List.any_eq_true.mp q
  exact List.mem_map.mpr ⟨p, hp, of_decide_eq_true e⟩
end
theorem at_of {xs : List V} {z : Int} {j : Nat} {v : V} (e : z = (j : Int)) (h : xs[j]? = some v) : atI xs z = some v := by
  rw [e]
  exact atI_nat h
theorem Same.made {H H1 : Hp} {x dx C : Addr} (nx : H x = Option.none) (nd : H dx = Option.none) (k : ∀ b o, (upd (upd H dx (.own x)) x (.ins C dx [])) b = some o → b ≠ x → H1 b = some o) : Same H H1 := fun b o e =>
  k b o (by rw [upd_ne (ne_of_none e nx), upd_ne (ne_of_none e nd)]; exact e) (ne_of_none e nx)
end L2
section
set_option Elab.async false
set_option linter.all false
set_option maxRecDepth 100000
set_option maxHeartbeats 2000000
namespace L2
open PySem PySem.Spec PyProof.Rows
open PySem.W (WData Codec OpenSpec Well WellAll ReadsW ReadsAllW)
mutual
/-- x stands for the datum d, lists and tuples all the way -/
inductive Dw (K : PySem.W.Frag) (H : Hp) : V → WData → Prop
  | non : Dw K H .non .none
  | bl (b : Bool) : Dw K H (.bl b) (.bool b)
  | int (i : Int) : Dw K H (.int i) (.int i)
  | str (x : Str) : Dw K H (.str x) (.str x)
  | byt (b : Array UInt8) : Dw K H (.byt b) (.bytes b.toList)
  | lst {a : Addr} {xs : List V} {ds : List WData} : SqL K H a xs → DwAll K H xs ds → Dw K H (.ref a) (.list ds)
  | tup {a : Addr} {xs : List V} {ds : List WData} : SqT K H a xs → DwAll K H xs ds → Dw K H (.ref a) (.tuple ds)
inductive DwAll (K : PySem.W.Frag) (H : Hp) : List V → List WData → Prop
  | nil : DwAll K H [] []
  | cons {v : V} {vs : List V} {d : WData} {ds : List WData} : Dw K H v d → DwAll K H vs ds → DwAll K H (v :: vs) (d :: ds)
end
theorem dw_ints {K : PySem.W.Frag} {H : Hp} : ∀ ns : List Int, DwAll K H (ns.map V.int) (ns.map WData.int)
  | [] => .nil
  | n :: r => .cons (.int n) (dw_ints r)
theorem ints_dw {K : PySem.W.Frag} {H : Hp} : ∀ (ns : List Int) (xs : List V), DwAll K H xs (ns.map WData.int) → xs = ns.map V.int
  | [], xs, h => by
    cases h
    rfl
  | n :: r, xs, h => by
    cases h with
    | cons h1 h2 =>
      cases h1
      rw [ints_dw r _ h2] <;> rfl
section
variable {P : Program} {w : World} {K : PySem.W.Frag} {H : Hp} {h : Heap} {R : PySem.W.WRecords} {cl : Str → Option Addr}
theorem sqL_at {a : Addr} {xs : List V} (hok : HOk P w H h) (KX : K.In h) (q : SqL K H a xs) : ∃ (its : List Value) (o : Obj) (n : Nat), Vals xs its ∧ h.get? a = some o ∧ o.cls = .type "list" ∧ o.data = .seq its.toArray n := by
  rcases q with q | ⟨o, its, n, e, hc, _, hd, _, hv⟩
  · obtain ⟨_, its, n, hv, e⟩ := (show ObjOk P w H h a (.lst xs) from q.ok hok)
    exact ⟨its, _, n, hv, e, rfl, rfl⟩
  · exact ⟨its.toList, o, n, hv, KX _ _ e, hc, by simp [hd]⟩
theorem sqT_at {a : Addr} {xs : List V} (hok : HOk P w H h) (KX : K.In h) (q : SqT K H a xs) : ∃ (its : List Value) (o : Obj) (n : Nat), Vals xs its ∧ h.get? a = some o ∧ o.cls = .type "tuple" ∧ o.data = .seq its.toArray n := by
  rcases q with q | ⟨o, its, n, e, hc, hd, _, hv⟩
  · obtain ⟨_, its, hv, o, e, hc, n, hd⟩ := (show ObjOk P w H h a (.tup xs) from q.ok hok)
    exact ⟨its, o, n, hv, e, hc, hd⟩
  · exact ⟨its.toList, o, n, hv, KX _ _ e, hc, by simp [hd]⟩
mutual
theorem Dw.reads (hok : HOk P w H h) (KX : K.In h) : ∀ (d : WData) (v : V) (u : Value), Dw K H v d → RelV v u → ∃ as, ReadsW R cl h u d as
  | .none, _, _, x, r => by
    cases x
    cases r
    exact ⟨_, ReadsW.none⟩
  | .bool b, _, _, x, r => by
    cases x
    cases r
    exact ⟨_, ReadsW.bool b⟩
  | .int i, _, _, x, r => by
    cases x
    obtain ⟨t, rfl⟩ := r
    exact ⟨_, ReadsW.int i t⟩
  | .str s, _, _, x, r => by
    cases x
    obtain ⟨t, rfl⟩ := r
    exact ⟨_, ReadsW.str s t⟩
  | .bytes b, _, _, x, r => by
    cases x
    obtain ⟨t, rfl⟩ := r
    exact ⟨_, ReadsW.bytes _ t⟩
  | .list ds, _, _, x, r => by
    cases x with
    | lst hs ha =>
      cases r
      obtain ⟨its, o, n, rv, ho, hc, hd⟩ := sqL_at hok KX hs
      obtain ⟨as, hr⟩ := Dw.readsAll hok KX ds _ its ha rv
      exact ⟨_, ReadsW.list ho hc hd hr⟩
  | .tuple ds, _, _, x, r => by
    cases x with
    | tup hs ha =>
      cases r
      obtain ⟨its, o, n, rv, ho, hc, hd⟩ := sqT_at hok KX hs
      obtain ⟨as, hr⟩ := Dw.readsAll hok KX ds _ its ha rv
      exact ⟨_, ReadsW.tuple ho hc hd hr⟩
  | .float _, _, _, x, _ => by cases x
  | .dict _, _, _, x, _ => by cases x
  | .bytearray _, _, _, x, _ => by cases x
  | .set _, _, _, x, _ => by cases x
  | .frozenset _, _, _, x, _ => by cases x
  | .obj _ _, _, _, x, _ => by cases x
theorem Dw.readsAll (hok : HOk P w H h) (KX : K.In h) : ∀ (ds : List WData) (vs : List V) (us : List Value), DwAll K H vs ds → Vals vs us → ∃ as, ReadsAllW R cl h us ds as
  | [], _, _, x, r => by
    cases x
    cases r
    exact ⟨_, ReadsAllW.nil⟩
  | d :: ds, _, _, x, r => by
    cases x with
    | cons h1 h2 =>
      cases r with
      | cons r1 r2 =>
        obtain ⟨as, q1⟩ := Dw.reads hok KX d _ _ h1 r1
        obtain ⟨bs, q2⟩ := Dw.readsAll hok KX ds _ _ h2 r2
        exact ⟨_, ReadsAllW.cons q1 q2⟩
end
end
mutual
/-- data that a codec tells -/
def plW : WData → Bool
  | .none => true
  | .bool _ => true
  | .int _ => true
  | .str _ => true
  | .bytes _ => true
  | .list xs => plWs xs
  | .tuple xs => plWs xs
  | _ => false
def plWs : List WData → Bool
  | [] => true
  | x :: r => plW x && plWs r
end
theorem plWs_map {α : Type} {f : α → WData} (h : ∀ a, plW (f a) = true) : ∀ l : List α, plWs (l.map f) = true
  | [] => rfl
  | x :: r => by
    show (plW (f x) && plWs (r.map f)) = true
    rw [h x, plWs_map h r] <;> rfl
theorem pl_enc : ∀ (c : Codec) (a : c.denote), plW (c.enc a) = true
  | .unit, _ => rfl
  | .bool, _ => rfl
  | .int _ _, _ => rfl
  | .nat _ _, _ => rfl
  | .u8, _ => rfl
  | .bytes _ _, _ => rfl
  | .text _ _ _ _, _ => rfl
  | .list _ _ c, a => plWs_map (fun x => pl_enc c x) a
  | .pair c d, a => by
    show (plW (c.enc a.1) && (plW (d.enc a.2) && true)) = true
    rw [pl_enc c a.1, pl_enc d a.2] <;> rfl
  | .triple c d e, a => by
    show (plW (c.enc a.1) && (plW (d.enc a.2.1) && (plW (e.enc a.2.2) && true))) = true
    rw [pl_enc c a.1, pl_enc d a.2.1, pl_enc e a.2.2] <;> rfl
  | .option c, none => rfl
  | .option c, some x => pl_enc c x
theorem pl_encAll : ∀ (cs : List Codec) (a : Codec.denoteAll cs), plWs (Codec.encAll cs a) = true
  | [], _ => rfl
  | c :: cs, a => by
    show (plW (c.enc a.1) && plWs (Codec.encAll cs a.2)) = true
    rw [pl_enc c a.1, pl_encAll cs a.2] <;> rfl
theorem weight_mem : ∀ {xs : List WData} {d : WData}, d ∈ xs → d.weight ≤ WData.weightAll xs
  | [], d, h => absurd h (by simp)
  | x :: r, d, h => by
    show d.weight ≤ x.weight + 1 + WData.weightAll r
    rcases List.mem_cons.mp h with e | m
    · rw [e]
      omega
    · have z := weight_mem m
      omega
def toV : Value → V
  | .none => .non
  | .bool b => .bl b
  | .int i _ => .int i
  | .str x _ => .str x
  | .bytes b _ => .byt b
  | .ref a => .ref a
  | _ => .non
def OkU (A : List Addr) : Value → Prop
  | .none => True
  | .bool _ => True
  | .int _ _ => True
  | .str _ _ => True
  | .bytes _ _ => True
  | .ref a => a ∈ A
  | _ => False
theorem OkU.mono {A B : List Addr} (h : ∀ a ∈ A, a ∈ B) : ∀ {u : Value}, OkU A u → OkU B u := fun {u} x => by
  cases u with
  | ref a => exact h a x
  | none => trivial
  | bool b => trivial
  | int i t => trivial
  | str s t => trivial
  | bytes b t => trivial
  | _ => exact False.elim x
theorem relV_toV {A : List Addr} {u : Value} (x : OkU A u) : RelV (toV u) u := by
  cases u with
  | ref a => rfl
  | none => rfl
  | bool b => rfl
  | int i t => exact ⟨t, rfl⟩
  | str s t => exact ⟨t, rfl⟩
  | bytes b t => exact ⟨t, rfl⟩
  | _ => exact False.elim x
theorem vals_toV {A : List Addr} : ∀ {vs : List Value}, (∀ u ∈ vs, OkU A u) → Vals (vs.map toV) vs
  | [], _ => .nil
  | u :: r, h => .cons (relV_toV (h u (List.mem_cons_self ..))) (vals_toV fun x hx => h x (List.mem_cons_of_mem _ hx))
def ArgOb (h : Heap) (A : List Addr) (a : Addr) : Prop := ∃ vs : List Value, vs.length ≤ sizeLine ∧ (∀ u ∈ vs, OkU A u) ∧
  (h.get? a = some { cls := .type "list", data := .seq vs.toArray } ∨ h.get? a = some { cls := .type "tuple", data := .seq vs.toArray })
theorem ArgOb.mono {h : Heap} {A B : List Addr} {a : Addr} (k : ∀ a ∈ A, a ∈ B) (x : ArgOb h A a) : ArgOb h B a := by
  obtain ⟨vs, h1, h2, h3⟩ := x
  exact ⟨vs, h1, fun u hu => (h2 u hu).mono k, h3⟩
theorem wellAll_len {P : Params} {h : Heap} : ∀ {vs : List Value} {ds : List WData}, WellAll P h vs ds → vs.length = ds.length
  | _, _, .nil => rfl
  | _, _, .cons _ b => by
    show _ + 1 = _ + 1
    rw [wellAll_len b]
theorem well_list {P : Params} {h : Heap} {v : Value} {ds : List WData} (x : Well P h v (.list ds)) : ∃ (a : Addr) (vs : List Value), v = .ref a ∧ h.get? a = some { cls := .type "list", data := .seq vs.toArray } ∧ WellAll P h vs ds := by
  cases x with
  | list ho hall => exact ⟨_, _, rfl, ho, hall⟩
theorem well_tuple {P : Params} {h : Heap} {v : Value} {ds : List WData} (x : Well P h v (.tuple ds)) : ∃ (a : Addr) (vs : List Value), v = .ref a ∧ h.get? a = some { cls := .type "tuple", data := .seq vs.toArray } ∧ WellAll P h vs ds := by
  cases x with
  | tuple ho hall => exact ⟨_, _, rfl, ho, hall⟩
theorem well_cons {P : Params} {h : Heap} {us : List Value} {d : WData} {ds : List WData} (x : WellAll P h us (d :: ds)) : ∃ (v : Value) (vs : List Value), us = v :: vs ∧ Well P h v d ∧ WellAll P h vs ds := by
  cases x with
  | cons a b => exact ⟨_, _, rfl, a, b⟩
theorem line_of {n : Nat} (h : n ≤ 1048576) : n ≤ sizeLine := Nat.le_trans h (by decide)
section
variable {P : Params} {h : Heap}
mutual
theorem area_one : ∀ (d : WData) (v : Value), Well P h v d → plW d = true → d.weight ≤ 1048576 → ∃ A : List Addr, OkU A v ∧ ∀ a ∈ A, ArgOb h A a
  | .none, _, x, _, _ => by
    cases x
    exact ⟨[], trivial, fun a m => absurd m (by simp)⟩
  | .bool b, _, x, _, _ => by
    cases x
    exact ⟨[], trivial, fun a m => absurd m (by simp)⟩
  | .int i, _, x, _, _ => by
    cases x
    exact ⟨[], trivial, fun a m => absurd m (by simp)⟩
  | .str s, _, x, _, _ => by
    cases x
    exact ⟨[], trivial, fun a m => absurd m (by simp)⟩
  | .bytes b, _, x, _, _ => by
    cases x
    exact ⟨[], trivial, fun a m => absurd m (by simp)⟩
  | .list ds, _, x, p, z => by
    obtain ⟨a, vs, rfl, ho, hall⟩ := well_list x
    have z2 : WData.weightAll ds ≤ 1048576 := z
    obtain ⟨A, h1, h2⟩ := area_all ds _ hall p fun d hd => Nat.le_trans (weight_mem hd) z2
    have k : ∀ b ∈ A, b ∈ a :: A := fun b hb => List.mem_cons_of_mem _ hb
    refine ⟨a :: A, List.mem_cons_self .., fun b hb => ?_⟩
    rcases List.mem_cons.mp hb with e | m
    · rw [e]
      exact ⟨vs, line_of (by rw [wellAll_len hall]; exact Nat.le_trans (PySem.W.length_le_weightAllW ds) z2), fun u hu => (h1 u hu).mono k, .inl ho⟩
    · exact (h2 b m).mono k
  | .tuple ds, _, x, p, z => by
    obtain ⟨a, vs, rfl, ho, hall⟩ := well_tuple x
    have z2 : WData.weightAll ds ≤ 1048576 := z
    obtain ⟨A, h1, h2⟩ := area_all ds _ hall p fun d hd => Nat.le_trans (weight_mem hd) z2
    have k : ∀ b ∈ A, b ∈ a :: A := fun b hb => List.mem_cons_of_mem _ hb
    refine ⟨a :: A, List.mem_cons_self .., fun b hb => ?_⟩
    rcases List.mem_cons.mp hb with e | m
    · rw [e]
      exact ⟨vs, line_of (by rw [wellAll_len hall]; exact Nat.le_trans (PySem.W.length_le_weightAllW ds) z2), fun u hu => (h1 u hu).mono k, .inr ho⟩
    · exact (h2 b m).mono k
  | .float _, _, _, p, _ => Bool.noConfusion (show false = true from p)
  | .dict _, _, _, p, _ => Bool.noConfusion (show false = true from p)
  | .bytearray _, _, _, p, _ => Bool.noConfusion (show false = true from p)
  | .set _, _, _, p, _ => Bool.noConfusion (show false = true from p)
  | .frozenset _, _, _, p, _ => Bool.noConfusion (show false = true from p)
  | .obj _ _, _, _, p, _ => Bool.noConfusion (show false = true from p)
theorem area_all : ∀ (ds : List WData) (vs : List Value), WellAll P h vs ds → plWs ds = true → (∀ d ∈ ds, d.weight ≤ 1048576) → ∃ A : List Addr, (∀ u ∈ vs, OkU A u) ∧ ∀ a ∈ A, ArgOb h A a
  | [], _, x, _, _ => by
    cases x
    exact ⟨[], fun u m => absurd m (by simp), fun a m => absurd m (by simp)⟩
  | d :: ds, _, x, p, z => by
    obtain ⟨v, vs, rfl, x1, x2⟩ := well_cons x
    have q : plW d = true ∧ plWs ds = true := Bool.and_eq_true_iff.mp p
    obtain ⟨A, a1, a2⟩ := area_one d v x1 q.1 (z d (List.mem_cons_self ..))
    obtain ⟨B, b1, b2⟩ := area_all ds vs x2 q.2 fun e he => z e (List.mem_cons_of_mem _ he)
    have kA : ∀ b ∈ A, b ∈ A ++ B := fun b hb => List.mem_append.mpr (.inl hb)
    have kB : ∀ b ∈ B, b ∈ A ++ B := fun b hb => List.mem_append.mpr (.inr hb)
    refine ⟨A ++ B, fun u hu => ?_, fun b hb => ?_⟩
    · rcases List.mem_cons.mp hu with e | m
      · rw [e]
        exact a1.mono kA
      · exact (b1 u m).mono kB
    · rcases List.mem_append.mp hb with m | m
      · exact (a2 b m).mono kA
      · exact (b2 b m).mono kB
end
end
def hoOf (o : Obj) : Option HO := match o.data with
  | .seq vs _ => if (o.cls == Value.type "list") = true then some (.frz o (.lst (vs.toList.map toV))) else some (.frz o (.tup (vs.toList.map toV)))
  | _ => none
def argH (K : PySem.W.Frag) (h : Heap) (A : List Addr) : Hp := fun b => if b ∈ A then (if (K.lookup b).isNone = true then (h.get? b).bind hoOf else none) else none
def OnlyF (H : Hp) : Prop := ∀ b, H b = none ∨ ∃ o u, H b = some (.frz o u)
theorem hoOf_lst (vs : List Value) : hoOf { cls := .type "list", data := .seq vs.toArray } = some (.frz { cls := .type "list", data := .seq vs.toArray } (.lst (vs.map toV))) := by
  show (if (Value.type "list" == Value.type "list") = true then some (HO.frz { cls := .type "list", data := .seq vs.toArray } (.lst (vs.toArray.toList.map toV))) else some (HO.frz { cls := .type "list", data := .seq vs.toArray } (.tup (vs.toArray.toList.map toV)))) = _
  rw [if_pos (beq_self_eq_true _)]
theorem hoOf_tup (vs : List Value) : hoOf { cls := .type "tuple", data := .seq vs.toArray } = some (.frz { cls := .type "tuple", data := .seq vs.toArray } (.tup (vs.map toV))) := by
  show (if (Value.type "tuple" == Value.type "list") = true then some (HO.frz { cls := .type "tuple", data := .seq vs.toArray } (.lst (vs.toArray.toList.map toV))) else some (HO.frz { cls := .type "tuple", data := .seq vs.toArray } (.tup (vs.toArray.toList.map toV)))) = _
  rw [if_neg (by decide)]
section
variable {P : Program} {w : World} {K : PySem.W.Frag} {h : Heap} {A : List Addr}
theorem argH_at {b : Addr} {o : Obj} (hb : b ∈ A) (hk : K.lookup b = none) (e : h.get? b = some o) : argH K h A b = hoOf o := by
  unfold argH
  rw [if_pos hb, hk, if_pos (show (none : Option Obj).isNone = true from rfl), e] <;> rfl
theorem of_argH {b : Addr} {u : HO} (q : argH K h A b = some u) : b ∈ A ∧ K.lookup b = none := by
  unfold argH at q
  by_cases hb : b ∈ A
  · rw [if_pos hb] at q
    cases hk : K.lookup b with
    | none => exact ⟨hb, rfl⟩
    | some o =>
      rw [hk, if_neg (by simp)] at q
      cases q
  · rw [if_neg hb] at q
    cases q
theorem argH_is (ar : ∀ a ∈ A, ArgOb h A a) {b : Addr} {u : HO} (q : argH K h A b = some u) : K.lookup b = none ∧ ∃ vs : List Value, vs.length ≤ sizeLine ∧ (∀ u ∈ vs, OkU A u) ∧
    ((h.get? b = some { cls := .type "list", data := .seq vs.toArray } ∧ u = .frz { cls := .type "list", data := .seq vs.toArray } (.lst (vs.map toV))) ∨
     (h.get? b = some { cls := .type "tuple", data := .seq vs.toArray } ∧ u = .frz { cls := .type "tuple", data := .seq vs.toArray } (.tup (vs.map toV)))) := by
  obtain ⟨hb, hk⟩ := of_argH q
  obtain ⟨vs, h1, h2, h3⟩ := ar b hb
  refine ⟨hk, vs, h1, h2, ?_⟩
  rcases h3 with e | e
  · rw [argH_at hb hk e, hoOf_lst] at q
    exact .inl ⟨e, (Option.some.inj q).symm⟩
  · rw [argH_at hb hk e, hoOf_tup] at q
    exact .inr ⟨e, (Option.some.inj q).symm⟩
theorem argH_only (ar : ∀ a ∈ A, ArgOb h A a) : OnlyF (argH K h A) := fun b => by
  cases q : argH K h A b with
  | none => exact .inl rfl
  | some u =>
    obtain ⟨_, vs, _, _, ⟨_, e⟩ | ⟨_, e⟩⟩ := argH_is ar q
    · exact .inr ⟨_, _, by rw [e]⟩
    · exact .inr ⟨_, _, by rw [e]⟩
theorem argH_ok (ar : ∀ a ∈ A, ArgOb h A a) : HOk P w (argH K h A) h := fun b u q => by
  obtain ⟨_, vs, h1, h2, ⟨e, rfl⟩ | ⟨e, rfl⟩⟩ := argH_is ar q
  · exact ⟨e, by rw [List.length_map]; exact h1, vs, _, vals_toV h2, e⟩
  · exact ⟨e, by rw [List.length_map]; exact h1, vs, vals_toV h2, _, e, rfl, _, rfl⟩
theorem seq_inj {c c' : Value} {vs us : List Value} (e : (some { cls := c, data := .seq vs.toArray } : Option Obj) = some { cls := c', data := .seq us.toArray }) : c = c' ∧ vs = us := by
  have e1 := Option.some.inj e
  have e2 : c = c' := congrArg Obj.cls e1
  have e3 : Data.seq vs.toArray = Data.seq us.toArray := congrArg Obj.data e1
  injection e3 with e4
  refine ⟨e2, ?_⟩
  have e5 := congrArg Array.toList e4
  simpa using e5
theorem argL (KX : K.In h) (ar : ∀ a ∈ A, ArgOb h A a) {a : Addr} {vs : List Value} (ha : a ∈ A) (e : h.get? a = some { cls := .type "list", data := .seq vs.toArray }) : (∀ u ∈ vs, OkU A u) ∧ SqL K (argH K h A) a (vs.map toV) := by
  obtain ⟨us, h1, h2, h3⟩ := ar a ha
  have hu : us = vs := by
    rcases h3 with q | q
    · rw [e] at q
      exact (seq_inj q).2.symm
    · rw [e] at q
      exact absurd (Value.type.inj (seq_inj q).1) (by decide)
  subst hu
  refine ⟨h2, ?_⟩
  cases hk : K.lookup a with
  | none => exact .inl (.inr ⟨_, by rw [argH_at ha hk e, hoOf_lst]⟩)
  | some o =>
    have e2 := KX a o hk
    rw [e] at e2
    obtain rfl := Option.some.inj e2
    exact .inr ⟨_, us.toArray, _, hk, rfl, rfl, rfl, by rw [List.size_toArray]; exact h1, by simpa using vals_toV h2⟩
theorem argT (KX : K.In h) (ar : ∀ a ∈ A, ArgOb h A a) {a : Addr} {vs : List Value} (ha : a ∈ A) (e : h.get? a = some { cls := .type "tuple", data := .seq vs.toArray }) : (∀ u ∈ vs, OkU A u) ∧ SqT K (argH K h A) a (vs.map toV) := by
  obtain ⟨us, h1, h2, h3⟩ := ar a ha
  have hu : us = vs := by
    rcases h3 with q | q
    · rw [e] at q
      exact absurd (Value.type.inj (seq_inj q).1) (by decide)
    · rw [e] at q
      exact (seq_inj q).2.symm
  subst hu
  refine ⟨h2, ?_⟩
  cases hk : K.lookup a with
  | none => exact .inl (.inr ⟨_, by rw [argH_at ha hk e, hoOf_tup]⟩)
  | some o =>
    have e2 := KX a o hk
    rw [e] at e2
    obtain rfl := Option.some.inj e2
    exact .inr ⟨_, us.toArray, _, hk, rfl, rfl, by rw [List.size_toArray]; exact h1, by simpa using vals_toV h2⟩
mutual
theorem dw_one {Pm : Params} (KX : K.In h) (ar : ∀ a ∈ A, ArgOb h A a) : ∀ (d : WData) (v : Value), Well Pm h v d → plW d = true → OkU A v → Dw K (argH K h A) (toV v) d
  | .none, _, x, _, _ => by
    cases x
    exact .non
  | .bool b, _, x, _, _ => by
    cases x
    exact .bl b
  | .int i, _, x, _, _ => by
    cases x
    exact .int i
  | .str s, _, x, _, _ => by
    cases x
    exact .str s
  | .bytes b, _, x, _, _ => by
    cases x
    have z := Dw.byt (K := K) (H := argH K h A) b.toArray
    exact z
  | .list ds, _, x, p, hu => by
    obtain ⟨a, vs, rfl, ho, hall⟩ := well_list x
    obtain ⟨h2, hs⟩ := argL KX ar hu ho
    exact .lst hs (dw_all KX ar ds _ hall p h2)
  | .tuple ds, _, x, p, hu => by
    obtain ⟨a, vs, rfl, ho, hall⟩ := well_tuple x
    obtain ⟨h2, hs⟩ := argT KX ar hu ho
    exact .tup hs (dw_all KX ar ds _ hall p h2)
  | .float _, _, _, p, _ => Bool.noConfusion (show false = true from p)
  | .dict _, _, _, p, _ => Bool.noConfusion (show false = true from p)
  | .bytearray _, _, _, p, _ => Bool.noConfusion (show false = true from p)
  | .set _, _, _, p, _ => Bool.noConfusion (show false = true from p)
  | .frozenset _, _, _, p, _ => Bool.noConfusion (show false = true from p)
  | .obj _ _, _, _, p, _ => Bool.noConfusion (show false = true from p)
theorem dw_all {Pm : Params} (KX : K.In h) (ar : ∀ a ∈ A, ArgOb h A a) : ∀ (ds : List WData) (vs : List Value), WellAll Pm h vs ds → plWs ds = true → (∀ u ∈ vs, OkU A u) → DwAll K (argH K h A) (vs.map toV) ds
  | [], _, x, _, _ => by
    cases x
    exact .nil
  | d :: ds, _, x, p, hu => by
    obtain ⟨v, vs, rfl, x1, x2⟩ := well_cons x
    have q : plW d = true ∧ plWs ds = true := Bool.and_eq_true_iff.mp p
    exact .cons (dw_one KX ar d v x1 q.1 (hu _ (List.mem_cons_self ..))) (dw_all KX ar ds vs x2 q.2 fun u m => hu u (List.mem_cons_of_mem _ m))
end
end
theorem spec_call {P : Program} {w : World} {K : PySem.W.Frag} {mg mb : Str → Option Value} {CX : CXT} {k : Nat} {fa : Addr} {fd : FuncData} {ps : List Str} {sp : Sp} {s₁ : Shared} {vals : List Value} {ds : List WData} {R : PySem.W.WRecords} {cl : Str → Option Addr} {d0 : WData}
    (KX : K.In s₁.heap) (hns : s₁.heap.Ns mainGlobals mg) (hb : s₁.heap.Ns builtinsNs mb) (hbb : ∀ x : Str, x ≠ "__name__" → mb x = bootBuiltins x) (hlim : s₁.heap.NoLimit) (hg : s₁.gens = #[])
    (hwl : WellAll w.params s₁.heap vals ds) (hpl : plWs ds = true) (hwt : ∀ d ∈ ds, d.weight ≤ 1048576) (hr : Room k callerA)
    (F : ∀ base : Heap, K.In base → base.Ns mainGlobals mg → FnOk P w K mg base CX k fa fd ps sp) (hbind : ∀ (s : Shared) (us : List Value), us.length = ps.length → BindsTo s fd ⟨us, []⟩ (ps.zip us)) (hlen : ds.length = ps.length)
    (hsp : ∀ (H : Hp) (xs : List V), OnlyF H → DwAll K H xs ds → sp xs H (fun v H' => Dw K H' v d0) fun _ _ _ => False)
    (hCX : ∀ H e s', CX [] H s₁ (fun _ _ _ => False) e s' → False) :
    codeAny (model P w) callerA (.call (.ref fa) ⟨vals, []⟩) (fun r s' => ∃ u as, r = .ok (.ret u) ∧ ReadsW R cl s'.heap u d0 as ∧ OldK s₁.heap s'.heap ∧ s'.os = s₁.os ∧ AllBare s'.gens) s₁ := by
  obtain ⟨A, ho, ar⟩ := area_all ds vals hwl hpl hwt
  have hO : OnlyF (argH K s₁.heap A) := argH_only ar
  have hok : HOk P w (argH K s₁.heap A) s₁.heap := argH_ok ar
  have hS := dw_all KX ar ds vals hwl hpl ho
  have hV := vals_toV ho
  have hK : ∀ b u, argH K s₁.heap A b = some u → K.lookup b = none := fun b u q => (argH_is ar q).1
  have noA : ∀ {b : Addr} {o : Obj} {es : Array DictEntry} {ep : Nat}, s₁.heap.get? b = some o → o.data = .dict es ep → argH K s₁.heap A b = none := fun {b o es ep} e d => by
    cases q : argH K s₁.heap A b with
    | none => rfl
    | some u =>
      obtain ⟨_, vs, _, _, ⟨e2, _⟩ | ⟨e2, _⟩⟩ := argH_is ar q
      · rw [e2] at e
        cases e
        have d' : Data.seq vs.toArray _ = Data.dict es ep := d
        cases d'
      · rw [e2] at e
        cases e
        have d' : Data.seq vs.toArray _ = Data.dict es ep := d
        cases d'
  generalize argH K s₁.heap A = H at hO hok hS hK noA
  have base_of : ∀ {b : Addr} {o : Obj}, s₁.heap.get? b = some o → H b = none → (hidT s₁.heap H).get? b = some o := fun e n => hidT_get e n
  have nsK : ∀ {b : Addr} {m : Str → Option Value}, s₁.heap.Ns b m → (hidT s₁.heap H).Ns b m := fun {b m} ⟨o, es, ep, e, d, r⟩ => ⟨o, es, ep, base_of e (noA e d), d, r⟩
  have nK : ∀ b o, K.lookup b = some o → H b = none := fun b o e => by
    cases q : H b with
    | none => rfl
    | some u =>
      rw [hK b u q] at e
      cases e
  have hKb : K.In (hidT s₁.heap H) := fun b o e => base_of (KX b o e) (nK b o e)
  have hM : Mod K mg (hidT s₁.heap H) := ⟨hKb, nsK hns, ⟨mb, nsK hb, hbb⟩, let ⟨mc, h1, h2⟩ := hlim; ⟨mc, nsK h1, h2⟩⟩
  have e0 : Env0 P w K mg (hidT s₁.heap H) callerA [] s₁ H := ⟨rfl, hM, fun b o e => of_hidT e, Nat.le_of_eq (hidT_size _ _), trivial, fun b hb => absurd (show b ∈ ([] : List Addr) from hb) (by simp), hok, .of_eq hg⟩
  have hl : vals.length = ps.length := by rw [wellAll_len hwl]; exact hlen
  refine codeAny_mono ((F _ hKb (nsK hns)).run callerA [] s₁ H ⟨vals, []⟩ vals (vals.map toV) _ _ hr e0 (hbind s₁ vals hl) hV (hsp H _ hO hS)) fun r s' x => ?_
  cases r with
  | error e => exact (hCX H e s' x).elim
  | ok fl =>
    cases fl with
    | next => exact False.elim x
    | brk => exact False.elim x
    | cont => exact False.elim x
    | ret u =>
      obtain ⟨v, H', os, bare, un, hok', r', q⟩ := x
      have kept : ∀ b o, s₁.heap.get? b = some o → s'.heap.get? b = some o := fun b o e => by
        cases q2 : H b with
        | none => exact un.keep b o e q2 (by intro z; exact absurd (show b ∈ ([] : List Addr) from z) (by simp)) (by simp)
        | some u2 =>
          rcases hO b with z | ⟨ob, u3, z⟩
          · rw [q2] at z
            cases z
          · have z2 := un.frzs b ob _ z
            obtain ⟨e1, _⟩ := hok b _ z
            obtain ⟨e2, _⟩ := hok' b _ z2
            rw [e] at e1
            cases e1
            exact e2
      have KX' : K.In s'.heap := fun b o e => kept b o (KX b o e)
      obtain ⟨as, hrd⟩ := Dw.reads (R := R) (cl := cl) hok' KX' d0 v u q r'
      exact ⟨u, as, rfl, hrd, OldK.of_keep kept, os, bare⟩
theorem layable_weight {ds : List WData} (h : WData.layableAll ds = true) : ∀ d ∈ ds, d.weight ≤ 1048576 := fun d hd =>
  (PySem.W.layableW_iff.mp (List.all_eq_true.mp h d hd)).2.2
theorem encAll_len : ∀ (cs : List Codec) (a : Codec.denoteAll cs), (Codec.encAll cs a).length = cs.length
  | [], _ => rfl
  | c :: cs, a => by
    show (Codec.encAll cs a.2).length + 1 = cs.length + 1
    rw [encAll_len cs a.2]
theorem walk_spec {r : OpenSpec} {k : Nat} {q : Program} {loose : List Str} {XP : (Str → Option Value) → Heap → Prop} {YP : World → Heap → Prop} {d : DefRec} {K : Params → PySem.W.Frag} {CX : World → CXT} {ps : List Str} {sp : World → Sp}
    (hwell : r.wellSaid = true) (hdf : d.params.defaults = []) (hlen : r.args.length = ps.length) (hr : Room k callerA)
    (hY : ∀ (w : World) (h : Heap), YP w h → (K w.params).In h)
    (F : ∀ (w : World) (mg : Str → Option Value) (fa : Addr) (h : Heap), YP w h → (K w.params).In h → h.Ns mainGlobals mg → mg d.name = some (.ref fa) →
      ∃ fd : FuncData, (∀ (s : Shared) (us : List Value), us.length = ps.length → BindsTo s fd ⟨us, []⟩ (ps.zip us)) ∧
        ∀ base : Heap, (K w.params).In base → base.Ns mainGlobals mg → FnOk r.prog w (K w.params) mg base (CX w) k fa fd ps (sp w))
    (hsp : ∀ (w : World) (H : Hp) (xs : List V) (a : Codec.denoteAll r.args), OnlyF H → Codec.withinAll r.args a = true → Codec.app r.args r.asked a = true → DwAll (K w.params) H xs (Codec.encAll r.args a) →
      sp w xs H (fun v H' => Dw (K w.params) H' v (r.ret.enc (Codec.app r.args r.f a))) fun _ _ _ => False)
    (hCX : ∀ (w : World) (H : Hp) (s : Shared) (e : Value) (s' : Shared), CX w [] H s (fun _ _ _ => False) e s' → False) :
    PySem.W.WalkOS q loose XP YP r d [] (fun f vs => PySem.call f vs) := by
  intro w s_0 s₁ mg mb G Y fa o pm cd doc dV kV ho hd hcd hD hmg hg args vals as hpre hlay hrd hwl hlo
  obtain ⟨a, e1, e2⟩ := PySem.W.os_pre_some hpre
  obtain ⟨e3, hwi⟩ := Codec.encAll_of_decAll r.args args a e1
  subst e3
  have KX := hY w _ Y
  obtain ⟨fd, hb, hF⟩ := F w mg fa _ Y KX G.T.g hmg
  refine PySem.W.enter_call (codeAny_mono (spec_call (R := []) (cl := classAt s_0.heap) (d0 := r.ret.enc (Codec.app r.args r.f a)) KX G.T.g G.T.b G.T.builtins G.T.nolimit hg hwl (pl_encAll _ _) (layable_weight hlay) hr hF hb (by rw [encAll_len]; exact hlen)
    (fun H xs hO hS => hsp w H xs a hO hwi e2 hS) fun H e s' => hCX w H s₁ e s') fun r' s' hq => ?_)
  obtain ⟨u, as', rfl, h1, h2, h3, h4⟩ := hq
  exact ⟨.inl ⟨u, _, as', rfl, fun _ => rfl, h1, (OpenSpec.post_iff hwell hwi _ _).mpr rfl, fun z => Bool.noConfusion (show false = true from z)⟩, h2, h3, h4⟩
theorem walk_specK {r : OpenSpec} {k : Nat} {q : Program} {loose : List Str} {XP : (Str → Option Value) → Heap → Prop} {YP : World → Heap → Prop} {d : DefRec} {K : Params → PySem.W.Frag} {CX : CXT} {ps : List Str} {sp : PySem.W.Frag → Sp}
    (hwell : r.wellSaid = true) (hdf : d.params.defaults = []) (hlen : r.args.length = ps.length) (hr : Room k callerA)
    (hY : ∀ (w : World) (h : Heap), YP w h → (K w.params).In h)
    (F : ∀ (w : World) (mg : Str → Option Value) (fa : Addr) (h : Heap), YP w h → (K w.params).In h → h.Ns mainGlobals mg → mg d.name = some (.ref fa) →
      ∃ fd : FuncData, (∀ (s : Shared) (us : List Value), us.length = ps.length → BindsTo s fd ⟨us, []⟩ (ps.zip us)) ∧
        ∀ base : Heap, (K w.params).In base → base.Ns mainGlobals mg → FnOk r.prog w (K w.params) mg base CX k fa fd ps (sp (K w.params)))
    (hsp : ∀ (K : PySem.W.Frag) (H : Hp) (xs : List V) (a : Codec.denoteAll r.args), OnlyF H → Codec.withinAll r.args a = true → Codec.app r.args r.asked a = true → DwAll K H xs (Codec.encAll r.args a) →
      sp K xs H (fun v H' => Dw K H' v (r.ret.enc (Codec.app r.args r.f a))) fun _ _ _ => False)
    (hCX : ∀ (H : Hp) (s : Shared) (e : Value) (s' : Shared), CX [] H s (fun _ _ _ => False) e s' → False) :
    PySem.W.WalkOS q loose XP YP r d [] (fun f vs => PySem.call f vs) :=
  walk_spec (K := K) (CX := fun _ => CX) (sp := fun w => sp (K w.params)) hwell hdf hlen hr hY F (fun w H xs a h1 h2 h3 h4 => hsp (K w.params) H xs a h1 h2 h3 h4) fun _ H s e s' => hCX H s e s'
end L2
end

section
set_option Elab.async false
set_option linter.all false
set_option maxRecDepth 100000
set_option maxHeartbeats 2000000
namespace M
open PySem PySem.Spec PyProof.Rows L2
/-! ### the layer's words, a little shorter -/
theorem ifT {c A B : Prop} [Decidable c] (hc : c) (h : A) : if decide c = true then A else B := by
  rw [if_pos (decide_eq_true hc)]
  exact h
theorem ifF {c A B : Prop} [Decidable c] (hc : ¬ c) (h : B) : if decide c = true then A else B := by
  rw [if_neg (by rw [decide_eq_false hc]; exact Bool.false_ne_true)]
  exact h
theorem if2 {c A B : Prop} [Decidable c] (h1 : c → A) (h2 : ¬ c → B) : if decide c = true then A else B := by
  by_cases h : c
  · exact ifT h (h1 h)
  · exact ifF h (h2 h)
theorem ifN {c A B : Prop} [Decidable c] (h1 : ¬ c → A) (h2 : c → B) : if (!decide c) = true then A else B := by
  by_cases h : c
  · rw [decide_eq_true h]
    exact iteF (h2 h)
  · rw [decide_eq_false h]
    exact iteT (h1 h)
theorem ifB {b : Bool} {A B : Prop} (h1 : b = true → A) (h2 : b = false → B) : if b = true then A else B := by
  cases b with
  | true => exact iteT (h1 rfl)
  | false => exact iteF (h2 rfl)
theorem same_new {H : Hp} {p : Addr} (h : H p = none) (o : HO) : Same H (upd H p o) := fun b u q => by rw [upd_ne (ne_of_none q h)]; exact q
/-- a constant of a module that is an int -/
def CI (mg : Str → Option Value) (x : Str) (i : Int) : Prop := ∃ t, mg x = some (.int i t)
/-- a def of a module, for its callers -/
def Cal (P : Program) (w : World) (K : PySem.W.Frag) (mg : Str → Option Value) (base : Heap) (k : Nat) (x : Str) (ps : List Str) (sp : Sp) : Prop :=
  ∃ f fd, FnOk P w K mg base CX0 k f fd ps sp ∧ Binds K fd ps [] ∧ PySem.W.keepIn K (.ref f) = true ∧ mg x = some (.ref f)
/-- a def of a module, as it stands behind the top -/
def DefAt (K : PySem.W.Frag) (mg : Str → Option Value) (x : Str) (st : Stmt) (ps : List Str) : Prop :=
  ∃ f fd, Fun K x x st f fd ∧ Binds K fd ps [] ∧ mg x = some (.ref f)
section
variable {X : Cx} {x : Str} {p pos : Pos} {e : Expr} {es : List Expr} {t : TA} {k : Nat} {ps : List Str} {sp : Sp}
theorem pg_ci {i : Int} (h : CI X.mg x i) (hg : Gl X x := by rfl) (hd : (x == ("__debug__" : Str)) = false := by decide) : PE X (.Name x pos) (tC (.int i)) := by
  obtain ⟨tk, h⟩ := h
  exact pe_glob hg h ⟨tk, rfl⟩ hd
theorem pe_cal (C : Cal X.prog X.w X.K X.mg X.base k x ps sp) (hr : Room k X.A) (ha : PA X (e :: es) t) (hg : Gl X x := by rfl) (hdb : (x == ("__debug__" : Str)) = false := by decide)
    (he : starEach (e :: es) X.env = (false, eval e X.env) :: starEach es X.env := by rfl) (hpl : (backTo pos (starEach es X.env)).any (·.1) = false := by rfl) :
    PE X (.Call (.Name x p) (e :: es) [] pos) (tCall sp [] E0 t) := by
  obtain ⟨f, fd, F, b, kp, m⟩ := C
  exact pe_call F hr hg m kp b .nil pass0 ha hdb he hpl
def rLen (X : Cx) : List V → Hp → VK → Prop := fun xs H Q => ∃ p ys, xs = [.ref p] ∧ (SqL X.K H p ys ∨ SqT X.K H p ys) ∧ Q (.int ys.length) H
theorem pe_len {te : TE} (ml : X.mg "len" = none) (he : PE X e te) (hg : Gl X "len" := by rfl) (hs : starEach [e] X.env = (false, eval e X.env) :: starEach [] X.env := by rfl) (hpl : (backTo pos (starEach [] X.env)).any (·.1) = false := by rfl) :
    PE X (.Call (.Name "len" p) [e] [] pos) (tCB (rLen X) (tCons te tNil)) :=
  pe_callB call_len_seq hg ml PySem.boot_len (pa_cons he pa_nil hs) (by decide) (by decide) hs hpl
end
theorem Cal.mono {P : Program} {w : World} {K : PySem.W.Frag} {mg : Str → Option Value} {base : Heap} {j k : Nat} {x : Str} {ps : List Str} {sp : Sp} (C : Cal P w K mg base j x ps sp) (h : j ≤ k) : Cal P w K mg base k x ps sp := by
  obtain ⟨f, fd, F, b, kp, m⟩ := C
  exact ⟨f, fd, F.mono h, b, kp, m⟩
theorem Cal.imp {P : Program} {w : World} {K : PySem.W.Frag} {mg : Str → Option Value} {base : Heap} {k : Nat} {x : Str} {ps : List Str} {sp sp' : Sp} (C : Cal P w K mg base k x ps sp) (h : ∀ vs H Q E, sp' vs H Q E → sp vs H Q E) : Cal P w K mg base k x ps sp' := by
  obtain ⟨f, fd, F, b, kp, m⟩ := C
  exact ⟨f, fd, F.imp h, b, kp, m⟩
/-- items of a written list at a written place -/
theorem at0 {α : Type} {a : α} {r : List α} : atI (a :: r) 0 = some a := atI_nat (j := 0) rfl
theorem at1 {α : Type} {a b : α} {r : List α} : atI (a :: b :: r) 1 = some b := atI_nat (j := 1) rfl
theorem at2 {α : Type} {a b c : α} {r : List α} : atI (a :: b :: c :: r) 2 = some c := atI_nat (j := 2) rfl
theorem at3 {α : Type} {a b c d : α} {r : List α} : atI (a :: b :: c :: d :: r) 3 = some d := atI_nat (j := 3) rfl
theorem sz {n : Nat} (h : n ≤ 16777216 := by first | decide | simp) : n ≤ sizeLine := by rw [sizeLine_eq]; exact h
theorem szl {n : Nat} (h : n < 16777216 := by first | decide | simp) : n < sizeLine := by rw [sizeLine_eq]; exact h
/-- the text by places -/
def top (i : Nat) : Stmt := PySem.Challenge.pw_panetriggers_s01_answers.main.body.getD i (.Pass ⟨0, 0, 0, 0⟩)
end M

end
section
namespace M
open PySem L2
abbrev s_Pile_init : Stmt := inClass (top 5) 0
abbrev s_Pile_take : Stmt := inClass (top 5) 1
abbrev s_Pile_tell : Stmt := inClass (top 5) 2
abbrev s_Pile_make_pane : Stmt := inClass (top 5) 3
abbrev s_Pile_show : Stmt := inClass (top 5) 4
abbrev s_read_trigger : Stmt := top 27
abbrev s_read_at : Stmt := top 28
abbrev s_read_counted : Stmt := top 29
abbrev s_read_again : Stmt := top 30
abbrev s_read_two : Stmt := top 31
abbrev s_hear : Stmt := top 32
abbrev s_hear_simple : Stmt := top 33
abbrev s_count_down : Stmt := top 34
abbrev s_start_delay : Stmt := top 35
abbrev s_hear_again : Stmt := top 36
abbrev s_hear_turn : Stmt := top 37
abbrev s_hear_once : Stmt := top 38
abbrev s_join_first : Stmt := top 39
abbrev s_join_both : Stmt := top 40
abbrev s_join_until : Stmt := top 41
abbrev s_look_ahead : Stmt := top 42
abbrev s_answers : Stmt := top 59
abbrev s_size_of_call : Stmt := top 60
abbrev s_answer_call : Stmt := top 61
abbrev s_count_changes : Stmt := top 62
abbrev s_Stretch_init : Stmt := inClass (top 63) 0
abbrev s_Stretch_start_anew : Stmt := inClass (top 63) 1
abbrev s_Stretch_begin : Stmt := inClass (top 63) 2
abbrev s_Stretch_take_event : Stmt := inClass (top 63) 3
abbrev s_Stretch_pass_ticks : Stmt := inClass (top 63) 4
abbrev s_Stretch_pass_mark : Stmt := inClass (top 63) 5
abbrev s_Stretch_show_key : Stmt := inClass (top 63) 6
abbrev s_Stretch_show_keys : Stmt := inClass (top 63) 7
abbrev s_Stretch_show_soon : Stmt := inClass (top 63) 8
abbrev s_Stretch_show_counts : Stmt := inClass (top 63) 9
abbrev s_Stretch_let_all_hear : Stmt := inClass (top 63) 10
abbrev s_Stretch_let_hear : Stmt := inClass (top 63) 11
abbrev s_Stretch_when_heard : Stmt := inClass (top 63) 12
end M

end
section
set_option Elab.async false
set_option linter.all false
set_option maxRecDepth 100000
set_option maxHeartbeats 2000000
namespace M
open PySem PySem.Spec PyProof.Rows L2
open Hs03 (Trig T begun hears)
/-! ### triggers: mathematics -/
def depT : T → Nat
  | .again t => depT t + 1
  | .first a b => max (depT a) (depT b) + 1
  | .both a b => max (depT a) (depT b) + 1
  | .turn a b => max (depT a) (depT b) + 1
  | .until_ a b => max (depT a) (depT b) + 1
  | _ => 1
def dep : Trig → Nat
  | .again t x => max (depT t) (dep x) + 1
  | .first a b => max (dep a) (dep b) + 1
  | .both _ _ a b => max (dep a) (dep b) + 1
  | .turn a b => max (dep a) (depT b) + 1
  | .until_ a b => max (dep a) (dep b) + 1
  | _ => 1
theorem dep_begun : ∀ t : T, dep (begun t) = depT t
  | .count _ => rfl
  | .clock _ => rfl
  | .mark => rfl
  | .never => rfl
  | .again t => by simp only [begun, dep, depT, dep_begun t, Nat.max_self]
  | .first a b => by simp only [begun, dep, depT, dep_begun a, dep_begun b]
  | .both a b => by simp only [begun, dep, depT, dep_begun a, dep_begun b]
  | .turn a b => by simp only [begun, dep, depT, dep_begun a]
  | .until_ a b => by simp only [begun, dep, depT, dep_begun a, dep_begun b]
theorem dep_pos : ∀ t : Trig, 1 ≤ dep t := by intro t; cases t <;> simp [dep]
/-- what is over has fired -/
theorem over_fires : ∀ (t : Trig) (h : Hs03.H), (hears t h).2 = none → (hears t h).1 = true
  | .count n, .event => by unfold hears; split <;> simp
  | .count n, .tick => by simp [hears]
  | .count n, .mark => by simp [hears]
  | .clock d none, .event => by unfold hears; split <;> simp
  | .clock d none, .tick => by simp [hears]
  | .clock d none, .mark => by simp [hears]
  | .clock d (some k), .event => by simp [hears]
  | .clock d (some k), .tick => by unfold hears; split <;> simp
  | .clock d (some k), .mark => by simp [hears]
  | .mark, .event => by simp [hears]
  | .mark, .tick => by simp [hears]
  | .mark, .mark => by simp [hears]
  | .never, h => by cases h <;> simp [hears]
  | .again t x, h => by simp [hears]
  | .first a b, h => by
    have ha := over_fires a h
    have hb := over_fires b h
    simp only [hears]
    cases e1 : (hears a h).2 <;> cases e2 : (hears b h).2 <;> simp_all
  | .both x y a b, h => by
    simp only [hears]
    generalize (if x = true then (false, some a) else hears a h) = r
    generalize (if y = true then (false, some b) else hears b h) = q
    cases ((x || r.1) && (y || q.1)) <;> simp
  | .turn a b, h => by
    simp only [hears]
    cases (hears a h).2 <;> simp
  | .until_ a b, h => by
    have ha := over_fires a h
    have hb := over_fires b h
    simp only [hears]
    split
    · simp
    · cases e1 : (hears a h).2 <;> cases e2 : (hears b h).2 <;> simp_all
theorem still {t : Trig} {h : Hs03.H} (e : (hears t h).1 = false) : ∃ u, (hears t h).2 = some u := by
  cases q : (hears t h).2 with
  | some u => exact ⟨u, rfl⟩
  | none =>
    rw [over_fires t h q] at e
    cases e
theorem dep_hears : ∀ (t : Trig) (h : Hs03.H) (u : Trig), (hears t h).2 = some u → dep u ≤ dep t
  | .count n, h, u, e => by
    cases h <;> simp only [hears] at e <;> (try split at e) <;> simp at e <;> (try subst e) <;> simp [dep]
  | .clock d k, h, u, e => by
    cases h <;> cases k <;> simp only [hears] at e <;> (try split at e) <;> simp at e <;> (try subst e) <;> simp [dep]
  | .mark, h, u, e => by
    cases h <;> simp only [hears] at e <;> simp at e <;> (try subst e) <;> simp [dep]
  | .never, h, u, e => by
    cases h <;> simp only [hears] at e <;> simp at e <;> (try subst e) <;> simp [dep]
  | .again t x, h, u, e => by
    have ih := dep_hears x h
    simp only [hears, Option.some.injEq] at e
    subst e
    cases q : (hears x h).2 with
    | none =>
      simp only [Option.getD_none, dep, dep_begun]
      omega
    | some y =>
      have := ih y q
      simp only [Option.getD_some, dep]
      omega
  | .first a b, h, u, e => by
    have iha := dep_hears a h
    have ihb := dep_hears b h
    simp only [hears] at e
    cases q1 : (hears a h).2 with
    | none => simp [q1] at e
    | some x =>
      cases q2 : (hears b h).2 with
      | none => simp [q1, q2] at e
      | some y =>
        simp only [q1, q2, Option.some.injEq] at e
        subst e
        have h1 := iha x q1
        have h2 := ihb y q2
        simp only [dep]
        omega
  | .both x y a b, h, u, e => by
    have iha := dep_hears a h
    have ihb := dep_hears b h
    have h1 : dep ((if x = true then (false, some a) else hears a h).2.getD a) ≤ dep a := by
      cases x with
      | true => simp
      | false =>
        cases q : (hears a h).2 with
        | none => simp [q]
        | some z =>
          have := iha z q
          simp [q]
          omega
    have h2 : dep ((if y = true then (false, some b) else hears b h).2.getD b) ≤ dep b := by
      cases y with
      | true => simp
      | false =>
        cases q : (hears b h).2 with
        | none => simp [q]
        | some z =>
          have := ihb z q
          simp [q]
          omega
    simp only [hears] at e
    generalize (if x = true then (false, some a) else hears a h) = r at e h1
    generalize (if y = true then (false, some b) else hears b h) = q at e h2
    cases c : ((x || r.1) && (y || q.1)) with
    | true => simp [c] at e
    | false =>
      simp only [c, Bool.false_eq_true, if_false, Option.some.injEq] at e
      subst e
      simp only [dep]
      omega
  | .turn a b, h, u, e => by
    have iha := dep_hears a h
    simp only [hears] at e
    cases q : (hears a h).2 with
    | none =>
      simp only [q, Option.some.injEq] at e
      subst e
      simp only [dep, dep_begun]
      omega
    | some x =>
      simp only [q, Option.some.injEq] at e
      subst e
      have := iha x q
      simp only [dep]
      omega
  | .until_ a b, h, u, e => by
    have iha := dep_hears a h
    have ihb := dep_hears b h
    simp only [hears] at e
    split at e
    · simp at e
    · cases q1 : (hears a h).2 with
      | none => simp [q1] at e
      | some x =>
        cases q2 : (hears b h).2 with
        | none => simp [q1, q2] at e
        | some y =>
          simp only [q1, q2, Option.some.injEq] at e
          subst e
          have h1 := iha x q1
          have h2 := ihb y q2
          simp only [dep]
          omega
/-! ### triggers on the heap -/
/-- the trigger t, on its way, stands at v -/
inductive TrAt (H : Hp) : V → Trig → Prop
  | count {a : Addr} {n : Nat} : H a = some (.tup [.int 0, .int n]) → 1 ≤ n → TrAt H (.ref a) (.count n)
  | clock0 {a : Addr} {d : Nat} : H a = some (.tup [.int 1, .int d]) → TrAt H (.ref a) (.clock d none)
  | clockS {a : Addr} {d k : Nat} : H a = some (.tup [.int 9, .int k]) → 1 ≤ k → TrAt H (.ref a) (.clock d (some k))
  | mark {a : Addr} : H a = some (.tup [.int 2]) → TrAt H (.ref a) .mark
  | never {a : Addr} : H a = some (.tup [.int 3]) → TrAt H (.ref a) .never
  | again {a : Addr} {v u : V} {t : T} {x : Trig} : H a = some (.tup [.int 4, v, u]) → TrAt H v (begun t) → TrAt H u x → TrAt H (.ref a) (.again t x)
  | first {a : Addr} {v u : V} {x y : Trig} : H a = some (.tup [.int 5, v, u]) → TrAt H v x → TrAt H u y → TrAt H (.ref a) (.first x y)
  | both {a : Addr} {v u : V} {x y : Trig} : H a = some (.tup [.int 6, v, u]) → TrAt H v x → TrAt H u y → TrAt H (.ref a) (.both false false x y)
  | onceR {a : Addr} {v : V} {x y : Trig} : H a = some (.tup [.int 10, v]) → TrAt H v y → TrAt H (.ref a) (.both true false x y)
  | onceL {a : Addr} {v : V} {x y : Trig} : H a = some (.tup [.int 10, v]) → TrAt H v x → TrAt H (.ref a) (.both false true x y)
  | turn {a : Addr} {v u : V} {x : Trig} {b : T} : H a = some (.tup [.int 7, v, u]) → TrAt H v x → TrAt H u (begun b) → TrAt H (.ref a) (.turn x b)
  | until_ {a : Addr} {v u : V} {x y : Trig} : H a = some (.tup [.int 8, v, u]) → TrAt H v x → TrAt H u y → TrAt H (.ref a) (.until_ x y)
theorem TrAt.keep {H H' : Hp} (k : ∀ a xs, H a = some (.tup xs) → H' a = some (.tup xs)) {v : V} {t : Trig} (h : TrAt H v t) : TrAt H' v t := by
  induction h with
  | count e n => exact .count (k _ _ e) n
  | clock0 e => exact .clock0 (k _ _ e)
  | clockS e n => exact .clockS (k _ _ e) n
  | mark e => exact .mark (k _ _ e)
  | never e => exact .never (k _ _ e)
  | again e _ _ i j => exact .again (k _ _ e) i j
  | first e _ _ i j => exact .first (k _ _ e) i j
  | both e _ _ i j => exact .both (k _ _ e) i j
  | onceR e _ i => exact .onceR (k _ _ e) i
  | onceL e _ i => exact .onceL (k _ _ e) i
  | turn e _ _ i j => exact .turn (k _ _ e) i j
  | until_ e _ _ i j => exact .until_ (k _ _ e) i j
theorem TrAt.same {H H' : Hp} (s : Same H H') {v : V} {t : Trig} (h : TrAt H v t) : TrAt H' v t := h.keep fun a _ e => s a _ e
theorem TrAt.ref {H : Hp} {v : V} {t : Trig} (h : TrAt H v t) : ∃ a, v = .ref a := by cases h <;> exact ⟨_, rfl⟩
theorem TrAt.nn {H : Hp} {v : V} {t : Trig} (h : TrAt H v t) : ¬ v = .non := by
  obtain ⟨a, rfl⟩ := h.ref
  exact fun q => nomatch q
/-- what is left of a trigger -/
def LfAt (H : Hp) (w : V) : Option Trig → Prop
  | none => w = .non
  | some t => TrAt H w t
theorem LfAt.same {H H' : Hp} (s : Same H H') {w : V} : ∀ {o : Option Trig}, LfAt H w o → LfAt H' w o
  | none, h => h
  | some _, h => TrAt.same s h
theorem LfAt.keep {H H' : Hp} (k : ∀ a xs, H a = some (.tup xs) → H' a = some (.tup xs)) {w : V} : ∀ {o : Option Trig}, LfAt H w o → LfAt H' w o
  | none, h => h
  | some _, h => TrAt.keep k h
theorem LfAt.non_iff {H : Hp} {w : V} : ∀ {o : Option Trig}, LfAt H w o → (w = .non ↔ o = none)
  | none, h => ⟨fun _ => rfl, fun _ => h⟩
  | some _, h => ⟨fun q => absurd q (TrAt.nn h), fun q => nomatch q⟩
/-- the pair that hearing gives back -/
def OutAt (H : Hp) (r : Addr) (p : Bool × Option Trig) : Prop := ∃ w, H r = some (.tup [.bl p.1, w]) ∧ LfAt H w p.2
theorem OutAt.same {H H' : Hp} (s : Same H H') {r : Addr} {p : Bool × Option Trig} (h : OutAt H r p) : OutAt H' r p := by
  obtain ⟨w, e, l⟩ := h
  exact ⟨w, s _ _ e, l.same s⟩
def hc : Hs03.H → Int
  | .event => 0
  | .tick => 1
  | .mark => 2
def sortOf : Trig → Int
  | .count _ => 0
  | .clock _ none => 1
  | .clock _ (some _) => 9
  | .mark => 2
  | .never => 3
  | .again _ _ => 4
  | .first _ _ => 5
  | .both false false _ _ => 6
  | .both _ _ _ _ => 10
  | .turn _ _ => 7
  | .until_ _ _ => 8
theorem TrAt.head {H : Hp} {v : V} {t : Trig} (h : TrAt H v t) : ∃ a xs, v = .ref a ∧ H a = some (.tup (.int (sortOf t) :: xs)) := by
  cases h <;> exact ⟨_, _, rfl, by assumption⟩
end M

end
section
set_option Elab.async false
set_option linter.all false
set_option maxRecDepth 100000
set_option maxHeartbeats 2000000
namespace M
open PySem PySem.Spec PyProof.Rows L2
open Hs03 (Trig T begun hears)
theorem and2 {c1 c2 X Y A : Prop} [Decidable c1] [Decidable c2] (ha : (if decide c2 = true then X else Y) → A) (h : if decide (c1 ∧ c2) = true then X else Y) : if decide c1 = true then A else (if false = true then X else Y) := by
  by_cases e1 : c1
  · refine ifT e1 (ha ?_)
    by_cases e2 : c2
    · exact ifT e2 (by rwa [if_pos (decide_eq_true ⟨e1, e2⟩)] at h)
    · exact ifF e2 (by rwa [if_neg (by simp [e2])] at h)
  · exact ifF e1 (iteF (by rwa [if_neg (by simp [e1])] at h))
theorem or2 {c1 c2 X Y A : Prop} [Decidable c1] [Decidable c2] (ha : (if decide c2 = true then X else Y) → A) (h : if decide (c1 ∨ c2) = true then X else Y) : if decide c1 = true then (if true = true then X else Y) else A := by
  by_cases e1 : c1
  · exact ifT e1 (iteT (by rwa [if_pos (decide_eq_true (Or.inl e1))] at h))
  · refine ifF e1 (ha ?_)
    by_cases e2 : c2
    · exact ifT e2 (by rwa [if_pos (decide_eq_true (Or.inr e2))] at h)
    · exact ifF e2 (by rwa [if_neg (by simp [e1, e2])] at h)
/-- the constants of trigger.py -/
structure Cs (mg : Str → Option Value) : Prop where
  event : CI mg "EVENT" 0
  tick : CI mg "TICK" 1
  mark : CI mg "MARK" 2
  nth : CI mg "NTH" 0
  delay : CI mg "DELAY" 1
  atMark : CI mg "AT_MARK" 2
  never : CI mg "NEVER" 3
  again : CI mg "AGAIN" 4
  first : CI mg "FIRST" 5
  both : CI mg "BOTH" 6
  turn : CI mg "TURN" 7
  until_ : CI mg "UNTIL" 8
  delaying : CI mg "DELAYING" 9
  once : CI mg "ONCE" 10
  fires : CI mg "FIRES" 0
  left : CI mg "LEFT" 1
  mostN : CI mg "MOST_NUMBERS" 60
  deepest : CI mg "DEEPEST" 10
  mostC : CI mg "MOST_COUNTED" 1000
  len : mg "len" = none
section
variable {H : Hp} {v : V} {t : Trig}
theorem TrAt.is0 (h : TrAt H v t) (e : sortOf t = 0) : ∃ a n, v = .ref a ∧ t = .count n ∧ H a = some (.tup [.int 0, .int n]) ∧ 1 ≤ n := by
  cases h <;> first | exact ⟨_, _, rfl, rfl, by assumption, by assumption⟩ | exact absurd e (by simp [sortOf])
theorem TrAt.is1 (h : TrAt H v t) (e : sortOf t = 1) : ∃ a d, v = .ref a ∧ t = .clock d none ∧ H a = some (.tup [.int 1, .int (d : Nat)]) := by
  cases h <;> first | exact ⟨_, _, rfl, rfl, by assumption⟩ | exact absurd e (by simp [sortOf])
theorem TrAt.is9 (h : TrAt H v t) (e : sortOf t = 9) : ∃ a d k, v = .ref a ∧ t = .clock d (some k) ∧ H a = some (.tup [.int 9, .int (k : Nat)]) ∧ 1 ≤ k := by
  cases h <;> first | exact ⟨_, _, _, rfl, rfl, by assumption, by assumption⟩ | exact absurd e (by simp [sortOf])
theorem TrAt.is2 (h : TrAt H v t) (e : sortOf t = 2) : t = .mark := by
  cases h <;> first | rfl | exact absurd e (by simp [sortOf])
theorem TrAt.is3 (h : TrAt H v t) (e : sortOf t = 3) : t = .never := by
  cases h <;> first | rfl | exact absurd e (by simp [sortOf])
theorem TrAt.is4 (h : TrAt H v t) (e : sortOf t = 4) : ∃ a v1 v2 t0 x, v = .ref a ∧ t = .again t0 x ∧ H a = some (.tup [.int 4, v1, v2]) ∧ TrAt H v1 (begun t0) ∧ TrAt H v2 x := by
  cases h <;> first | exact ⟨_, _, _, _, _, rfl, rfl, by assumption, by assumption, by assumption⟩ | exact absurd e (by simp [sortOf])
theorem TrAt.is5 (h : TrAt H v t) (e : sortOf t = 5) : ∃ a v1 v2 x y, v = .ref a ∧ t = .first x y ∧ H a = some (.tup [.int 5, v1, v2]) ∧ TrAt H v1 x ∧ TrAt H v2 y := by
  cases h <;> first | exact ⟨_, _, _, _, _, rfl, rfl, by assumption, by assumption, by assumption⟩ | exact absurd e (by simp [sortOf])
theorem TrAt.is6 (h : TrAt H v t) (e : sortOf t = 6) : ∃ a v1 v2 x y, v = .ref a ∧ t = .both false false x y ∧ H a = some (.tup [.int 6, v1, v2]) ∧ TrAt H v1 x ∧ TrAt H v2 y := by
  cases h <;> first | exact ⟨_, _, _, _, _, rfl, rfl, by assumption, by assumption, by assumption⟩ | exact absurd e (by simp [sortOf])
theorem TrAt.is7 (h : TrAt H v t) (e : sortOf t = 7) : ∃ a v1 v2 x b, v = .ref a ∧ t = .turn x b ∧ H a = some (.tup [.int 7, v1, v2]) ∧ TrAt H v1 x ∧ TrAt H v2 (begun b) := by
  cases h <;> first | exact ⟨_, _, _, _, _, rfl, rfl, by assumption, by assumption, by assumption⟩ | exact absurd e (by simp [sortOf])
theorem TrAt.is8 (h : TrAt H v t) (e : sortOf t = 8) : ∃ a v1 v2 x y, v = .ref a ∧ t = .until_ x y ∧ H a = some (.tup [.int 8, v1, v2]) ∧ TrAt H v1 x ∧ TrAt H v2 y := by
  cases h <;> first | exact ⟨_, _, _, _, _, rfl, rfl, by assumption, by assumption, by assumption⟩ | exact absurd e (by simp [sortOf])
theorem TrAt.is10 (h : TrAt H v t) (e : sortOf t = 10) : ∃ a v1 x y, v = .ref a ∧ H a = some (.tup [.int 10, v1]) ∧ ((t = .both true false x y ∧ TrAt H v1 y) ∨ (t = .both false true x y ∧ TrAt H v1 x)) := by
  cases h with
  | onceR e1 e2 => exact ⟨_, _, _, _, rfl, e1, .inl ⟨rfl, e2⟩⟩
  | onceL e1 e2 => exact ⟨_, _, _, _, rfl, e1, .inr ⟨rfl, e2⟩⟩
  | _ => exact absurd e (by simp [sortOf])
theorem sort_cases (t : Trig) : sortOf t = 0 ∨ sortOf t = 1 ∨ sortOf t = 2 ∨ sortOf t = 3 ∨ sortOf t = 4 ∨ sortOf t = 5 ∨ sortOf t = 6 ∨ sortOf t = 7 ∨ sortOf t = 8 ∨ sortOf t = 9 ∨ sortOf t = 10 := by
  unfold sortOf
  split <;> simp
theorem hc0 {h : Hs03.H} (e : hc h = 0) : h = .event := by cases h <;> first | rfl | exact absurd e (by decide)
theorem hc1 {h : Hs03.H} (e : hc h = 1) : h = .tick := by cases h <;> first | rfl | exact absurd e (by decide)
theorem hc2 {h : Hs03.H} (e : hc h = 2) : h = .mark := by cases h <;> first | rfl | exact absurd e (by decide)
end
/-! ### promises -/
def spCD : Sp := fun vs H Q _ => ∃ c n : Int, vs = [.int c, .int n] ∧ (n = 1 → ∀ r H', Same H H' → H' r = some (.tup [.bl true, .non]) → Q (.ref r) H') ∧
  (¬ n = 1 → ∀ p r H', Same H H' → H' p = some (.tup [.int c, .int (n - 1)]) → H' r = some (.tup [.bl false, .ref p]) → Q (.ref r) H')
def spSD : Sp := fun vs H Q _ => ∃ d : Int, vs = [.int d] ∧ (d = 0 → ∀ r H', Same H H' → H' r = some (.tup [.bl true, .non]) → Q (.ref r) H') ∧
  (¬ d = 0 → ∀ p r H', Same H H' → H' p = some (.tup [.int 9, .int d]) → H' r = some (.tup [.bl false, .ref p]) → Q (.ref r) H')
/-- a def that hears with the trigger t: what the specification's hearing gives, all else as it was -/
def spHr (ok : Trig → Prop) : Sp := fun vs H Q _ => ∃ v t h, vs = [v, .int (hc h)] ∧ TrAt H v t ∧ ok t ∧ ∀ r H', Same H H' → OutAt H' r (hears t h) → Q (.ref r) H'
def simp_ (t : Trig) : Prop := sortOf t ≤ 3 ∨ sortOf t = 9
section
variable {P : Program} {w : World} {K : PySem.W.Frag} {mg : Str → Option Value} {base : Heap}
theorem sc_cd : FnScope ["sort", "missing"] ["sort", "missing"] (defScope s_count_down) := ⟨rfl, rfl, rfl, by decide +kernel, rfl, by decide +kernel, by decide +kernel⟩
theorem ok_count_down (D : DefAt K mg "count_down" s_count_down ["sort", "missing"]) : Cal P w K mg base 1 "count_down" ["sort", "missing"] spCD := by
  obtain ⟨f, fd, F, b, m⟩ := D
  refine ⟨f, fd, F.ok sc_cd (fun vs H Q E h => ?_) (fun cdv A outer s H vs Q E hr h => ?_), b, F.kp, m⟩
  · obtain ⟨c, n, rfl, _⟩ := h
    rfl
  obtain ⟨c, n, rfl, h1, h2⟩ := h
  refine ⟨_, pss_cons (ps_if (pt_cmp (pc_eqI (pv 1) pe_int)) (pss_one (ps_ret (pe_tup (pa_cons pe_bl (pa_cons pe_non pa_nil))))) pss_nil)
    (pss_one (ps_ret (pe_tup (pa_cons pe_bl (pa_cons (pe_tup (pa_cons (pv 0) (pa_cons (pe_op op_sub (pv 1) pe_int) pa_nil))) pa_nil))))), ?_⟩
  refine ⟨_, rfl, _, _, rfl, rfl, _, rfl, if2 (fun c1 => ?_) (fun c1 => ?_)⟩
  · exact ⟨sz, fun r hr' => h1 c1 r _ (same_new hr' _) upd_same⟩
  · refine ⟨_, rfl, _, rfl, _, _, rfl, rfl, sz, fun p hp => ⟨sz, fun r hr' => ?_⟩⟩
    exact h2 c1 p r _ ((same_new hp _).trans (same_new hr' _)) (same_new hr' _ _ _ upd_same) upd_same
theorem sc_sd : FnScope ["ticks"] ["ticks"] (defScope s_start_delay) := ⟨rfl, rfl, rfl, by decide +kernel, rfl, by decide +kernel, by decide +kernel⟩
theorem ok_start_delay (D : DefAt K mg "start_delay" s_start_delay ["ticks"]) (T : Cs mg) : Cal P w K mg base 1 "start_delay" ["ticks"] spSD := by
  obtain ⟨f, fd, F, b, m⟩ := D
  refine ⟨f, fd, F.ok sc_sd (fun vs H Q E h => ?_) (fun cdv A outer s H vs Q E hr h => ?_), b, F.kp, m⟩
  · obtain ⟨c, rfl, _⟩ := h
    rfl
  obtain ⟨d, rfl, h1, h2⟩ := h
  refine ⟨_, pss_cons (ps_if (pt_cmp (pc_eqI (pv 0) pe_int)) (pss_one (ps_ret (pe_tup (pa_cons pe_bl (pa_cons pe_non pa_nil))))) pss_nil)
    (pss_one (ps_ret (pe_tup (pa_cons pe_bl (pa_cons (pe_tup (pa_cons (pg_ci T.delaying) (pa_cons (pv 0) pa_nil))) pa_nil))))), ?_⟩
  refine ⟨_, rfl, _, _, rfl, rfl, _, rfl, if2 (fun c1 => ?_) (fun c1 => ?_)⟩
  · exact ⟨sz, fun r hr' => h1 c1 r _ (same_new hr' _) upd_same⟩
  · refine ⟨_, rfl, sz, fun p hp => ⟨sz, fun r hr' => ?_⟩⟩
    exact h2 c1 p r _ ((same_new hp _).trans (same_new hr' _)) (same_new hr' _ _ _ upd_same) upd_same
theorem sc_hs : FnScope ["trigger", "heard", "sort"] ["trigger", "heard"] (defScope s_hear_simple) := ⟨rfl, rfl, rfl, by decide +kernel, rfl, by decide +kernel, by decide +kernel⟩
theorem ok_hear_simple (D : DefAt K mg "hear_simple" s_hear_simple ["trigger", "heard"]) (T : Cs mg) (CD : Cal P w K mg base 1 "count_down" ["sort", "missing"] spCD) (SD : Cal P w K mg base 1 "start_delay" ["ticks"] spSD) :
    Cal P w K mg base 2 "hear_simple" ["trigger", "heard"] (spHr simp_) := by
  obtain ⟨f, fd, F, b, m⟩ := D
  refine ⟨f, fd, F.ok sc_hs (fun vs H Q E h => ?_) (fun cdv A outer s H vs Q E hr h => ?_), b, F.kp, m⟩
  · obtain ⟨v, t, h, rfl, _⟩ := h
    rfl
  obtain ⟨v, t, h, rfl, hT, ok, k⟩ := h
  refine ⟨_, pss_cons (ps_set (i := 2) sc_hs.nd rfl (Or.inl rfl) (pe_ix ix_tup (pv 0) pe_int (fun _ _ => rfl)))
    (pss_cons (ps_if (pw_and (pt_cmp (pc_eqI (pv 2) (pg_ci T.nth))) (pw_and1 (pt_cmp (pc_eqI (pv 1) (pg_ci T.event))))).pt
      (pss_one (ps_ret (pe_cal CD hr (pa_cons (pg_ci T.nth) (pa_cons (pe_ix ix_tup (pv 0) pe_int (fun _ _ => rfl)) pa_nil))))) pss_nil)
    (pss_cons (ps_if (pw_and (pt_cmp (pc_eqI (pv 2) (pg_ci T.delay))) (pw_and1 (pt_cmp (pc_eqI (pv 1) (pg_ci T.event))))).pt
      (pss_one (ps_ret (pe_cal SD hr (pa_cons (pe_ix ix_tup (pv 0) pe_int (fun _ _ => rfl)) pa_nil)))) pss_nil)
    (pss_cons (ps_if (pw_and (pt_cmp (pc_eqI (pv 2) (pg_ci T.delaying))) (pw_and1 (pt_cmp (pc_eqI (pv 1) (pg_ci T.tick))))).pt
      (pss_one (ps_ret (pe_cal CD hr (pa_cons (pg_ci T.delaying) (pa_cons (pe_ix ix_tup (pv 0) pe_int (fun _ _ => rfl)) pa_nil))))) pss_nil)
    (pss_cons (ps_if (pw_and (pt_cmp (pc_eqI (pv 2) (pg_ci T.atMark))) (pw_and1 (pt_cmp (pc_eqI (pv 1) (pg_ci T.mark))))).pt
      (pss_one (ps_ret (pe_tup (pa_cons pe_bl (pa_cons pe_non pa_nil))))) pss_nil)
    (pss_one (ps_ret (pe_tup (pa_cons pe_bl (pa_cons (pv 0) pa_nil))))))))), ?_⟩
  obtain ⟨a, xs, rfl, ha⟩ := hT.head
  refine ⟨_, rfl, a, _, _, _, rfl, rfl, SqT.of ha, at0, ?_⟩
  refine ⟨_, rfl, _, _, rfl, rfl, _, rfl, and2 (c2 := hc h = 0) (fun q => ⟨_, rfl, _, _, rfl, rfl, _, rfl, q⟩) (if2 (fun c => ?_) (fun c1 => ?_))⟩
  · obtain ⟨a', n, e, rfl, hn, h1⟩ := hT.is0 c.1
    cases e
    obtain rfl := hc0 c.2
    refine ⟨_, rfl, a, _, _, _, rfl, rfl, SqT.of hn, at1, ?_⟩
    refine ⟨0, n, rfl, fun e r H' s q => k r H' s ?_, fun e p r H' s q1 q2 => k r H' s ?_⟩
    · rw [show hears (.count n) .event = (true, none) by simp only [hears]; rw [if_pos (by omega)]]
      exact ⟨_, q, rfl⟩
    · rw [show hears (.count n) .event = (false, some (.count (n - 1))) by simp only [hears]; rw [if_neg (by omega)]]
      exact ⟨_, q2, .count (by rw [q1, show ((n : Int) - 1) = ((n - 1 : Nat) : Int) by omega]) (by omega)⟩
  refine ⟨_, rfl, _, _, rfl, rfl, _, rfl, and2 (c2 := hc h = 0) (fun q => ⟨_, rfl, _, _, rfl, rfl, _, rfl, q⟩) (if2 (fun c => ?_) (fun c2 => ?_))⟩
  · obtain ⟨a', n, e, rfl, hn⟩ := hT.is1 c.1
    cases e
    obtain rfl := hc0 c.2
    refine ⟨_, rfl, a, _, _, _, rfl, rfl, SqT.of hn, at1, ?_⟩
    refine ⟨n, rfl, fun e r H' s q => k r H' s ?_, fun e p r H' s q1 q2 => k r H' s ?_⟩
    · rw [show hears (.clock n none) .event = (true, none) by simp only [hears]; rw [if_pos (by omega)]]
      exact ⟨_, q, rfl⟩
    · rw [show hears (.clock n none) .event = (false, some (.clock n (some n))) by simp only [hears]; rw [if_neg (by omega)]]
      exact ⟨_, q2, .clockS q1 (by omega)⟩
  refine ⟨_, rfl, _, _, rfl, rfl, _, rfl, and2 (c2 := hc h = 1) (fun q => ⟨_, rfl, _, _, rfl, rfl, _, rfl, q⟩) (if2 (fun c => ?_) (fun c3 => ?_))⟩
  · obtain ⟨a', d, n, e, rfl, hn, h1⟩ := hT.is9 c.1
    cases e
    obtain rfl := hc1 c.2
    refine ⟨_, rfl, a, _, _, _, rfl, rfl, SqT.of hn, at1, ?_⟩
    refine ⟨9, n, rfl, fun e r H' s q => k r H' s ?_, fun e p r H' s q1 q2 => k r H' s ?_⟩
    · rw [show hears (.clock d (some n)) .tick = (true, none) by simp only [hears]; rw [if_pos (by omega)]]
      exact ⟨_, q, rfl⟩
    · rw [show hears (.clock d (some n)) .tick = (false, some (.clock d (some (n - 1)))) by simp only [hears]; rw [if_neg (by omega)]]
      exact ⟨_, q2, .clockS (by rw [q1, show ((n : Int) - 1) = ((n - 1 : Nat) : Int) by omega]) (by omega)⟩
  refine ⟨_, rfl, _, _, rfl, rfl, _, rfl, and2 (c2 := hc h = 2) (fun q => ⟨_, rfl, _, _, rfl, rfl, _, rfl, q⟩) (if2 (fun c => ?_) (fun c4 => ?_))⟩
  · obtain rfl := hT.is2 c.1
    obtain rfl := hc2 c.2
    exact ⟨sz, fun r hr' => k r _ (same_new hr' _) ⟨_, upd_same, rfl⟩⟩
  · refine ⟨_, rfl, sz, fun r hr' => k r _ (same_new hr' _) ?_⟩
    have hT' := hT.same (same_new hr' (.tup [.bl false, .ref a]))
    have e : hears t h = (false, some t) := by
      rcases ok with ok | ok
      · rcases sort_cases t with e | e | e | e | e
        · obtain ⟨_, n, _, rfl, _⟩ := hT.is0 e
          cases h with
          | event => exact absurd ⟨rfl, rfl⟩ c1
          | _ => rfl
        · obtain ⟨_, n, _, rfl, _⟩ := hT.is1 e
          cases h with
          | event => exact absurd ⟨rfl, rfl⟩ c2
          | _ => rfl
        · obtain rfl := hT.is2 e
          cases h with
          | mark => exact absurd ⟨rfl, rfl⟩ c4
          | _ => rfl
        · obtain rfl := hT.is3 e
          cases h <;> rfl
        · omega
      · obtain ⟨_, d, n, _, rfl, _⟩ := hT.is9 ok
        cases h with
        | tick => exact absurd ⟨rfl, rfl⟩ c3
        | _ => rfl
    rw [e]
    exact ⟨_, upd_same, hT'⟩
end
end M

end
section
set_option Elab.async false
set_option linter.all false
set_option maxRecDepth 100000
set_option maxHeartbeats 2000000
namespace M
open PySem PySem.Spec PyProof.Rows L2
open Hs03 (Trig T begun hears)
/-- a or b, as a value, where b changes nothing -/
def tOrP (ta tb : TE) : TE := fun σ H Q => ta σ H fun x H1 => ∃ c d, x = .bl c ∧ (∀ R : VK, R (.bl d) H1 → tb σ H1 R) ∧ Q (.bl (c || d)) H1
theorem pe_orP {X : Cx} {a b : Expr} {ta tb : TE} {rest : List Expr} {pos : Pos} (mono : ∀ σ H (Q Q' : VK), (∀ v H1, Q v H1 → Q' v H1) → ta σ H Q → ta σ H Q') (ha : PE X a ta) (hb : PE X (.BoolOp .Or (b :: rest) pos) tb) : PE X (.BoolOp .Or (a :: b :: rest) pos) (tOrP ta tb) := by
  intro pins s σ H Q I h
  refine pe_or ha hb pins s σ H Q I (mono σ H _ _ (fun v H1 q => ?_) h)
  obtain ⟨c, d, rfl, q1, q2⟩ := q
  refine ⟨c, rfl, ?_⟩
  cases c with
  | true => exact iteT q2
  | false => exact iteF (q1 Q q2)
theorem mono_ix {K : PySem.W.Frag} {ta tb : TE} (ma : ∀ σ H (Q Q' : VK), (∀ v H1, Q v H1 → Q' v H1) → ta σ H Q → ta σ H Q') (mb : ∀ σ H (Q Q' : VK), (∀ v H1, Q v H1 → Q' v H1) → tb σ H Q → tb σ H Q') :
    ∀ σ H (Q Q' : VK), (∀ v H1, Q v H1 → Q' v H1) → tOp (rIxT K) ta tb σ H Q → tOp (rIxT K) ta tb σ H Q' := fun σ H Q Q' hq h =>
  ma σ H _ _ (fun v H1 q => mb σ H1 _ _ (fun v2 H2 ⟨p, xs, i, z, e1, e2, e3, e4, q⟩ => ⟨p, xs, i, z, e1, e2, e3, e4, hq _ _ q⟩) q) h
theorem mono_v {i : Nat} : ∀ σ H (Q Q' : VK), (∀ v H1, Q v H1 → Q' v H1) → tVar i σ H Q → tVar i σ H Q' := fun σ H Q Q' hq ⟨v, e, q⟩ => ⟨v, e, hq _ _ q⟩
theorem mono_c {x : V} : ∀ σ H (Q Q' : VK), (∀ v H1, Q v H1 → Q' v H1) → tC x σ H Q → tC x σ H Q' := fun σ H Q Q' hq q => hq _ _ q
theorem and2b {c1 c2 : Bool} {X Y A : Prop} (ha : (if c2 = true then X else Y) → A) (h : if (c1 && c2) = true then X else Y) : if c1 = true then A else (if false = true then X else Y) := by
  cases c1 with
  | true => exact iteT (ha h)
  | false => exact iteF h
theorem or2b {c1 c2 : Bool} {X Y A : Prop} (ha : (if c2 = true then X else Y) → A) (h : if (c1 || c2) = true then X else Y) : if c1 = true then (if true = true then X else Y) else A := by
  cases c1 with
  | true => exact iteT h
  | false => exact iteF (ha h)
/-- a def that joins what both parts did -/
def spJ (mk : Trig → Trig → Trig) : Sp := fun vs H Q _ => ∃ r1 r2 x y h, vs = [.ref r1, .ref r2] ∧ OutAt H r1 (hears x h) ∧ OutAt H r2 (hears y h) ∧ ∀ r H', Same H H' → OutAt H' r (hears (mk x y) h) → Q (.ref r) H'
section
variable {P : Program} {w : World} {K : PySem.W.Frag} {mg : Str → Option Value} {base : Heap}
theorem sc_j1 : FnScope ["one", "two", "fires"] ["one", "two"] (defScope s_join_first) := ⟨rfl, rfl, rfl, by decide +kernel, rfl, by decide +kernel, by decide +kernel⟩
theorem ok_join_first (D : DefAt K mg "join_first" s_join_first ["one", "two"]) (T : Cs mg) : Cal P w K mg base 1 "join_first" ["one", "two"] (spJ .first) := by
  obtain ⟨f, fd, F, b, m⟩ := D
  refine ⟨f, fd, F.ok sc_j1 (fun vs H Q E h => ?_) (fun cdv A outer s H vs Q E hr h => ?_), b, F.kp, m⟩
  · obtain ⟨v, t, _, _, h, rfl, _⟩ := h
    rfl
  obtain ⟨r1, r2, x, y, h, rfl, ⟨w1, o1, l1⟩, ⟨w2, o2, l2⟩, k⟩ := h
  refine ⟨_, pss_cons (ps_set (i := 2) sc_j1.nd rfl (Or.inl rfl) (pe_orP (mono_ix mono_v mono_c) (pe_ix ix_tup (pv 0) (pg_ci T.fires) (fun _ _ => rfl)) (pe_one (pe_ix ix_tup (pv 1) (pg_ci T.fires) (fun _ _ => rfl)))))
    (pss_cons (ps_if (pw_or (pt_cmp (pc_isN (pe_ix ix_tup (pv 0) (pg_ci T.left) (fun _ _ => rfl)))) (pw_or1 (pt_cmp (pc_isN (pe_ix ix_tup (pv 1) (pg_ci T.left) (fun _ _ => rfl)))))).pt
      (pss_one (ps_ret (pe_tup (pa_cons (pv 2) (pa_cons pe_non pa_nil))))) pss_nil)
    (pss_one (ps_ret (pe_tup (pa_cons (pv 2) (pa_cons (pe_tup (pa_cons (pg_ci T.first) (pa_cons (pe_ix ix_tup (pv 0) (pg_ci T.left) (fun _ _ => rfl)) (pa_cons (pe_ix ix_tup (pv 1) (pg_ci T.left) (fun _ _ => rfl)) pa_nil)))) pa_nil)))))), ?_⟩
  refine ⟨_, rfl, r1, _, _, _, rfl, rfl, SqT.of o1, at0, _, (hears y h).1, rfl, fun R q => ⟨_, rfl, r2, _, _, _, rfl, rfl, SqT.of o2, at0, q⟩, ?_⟩
  refine ⟨_, rfl, r1, _, _, _, rfl, rfl, SqT.of o1, at1, _, rfl, or2 (c2 := w2 = .non) (fun q => ⟨_, rfl, r2, _, _, _, rfl, rfl, SqT.of o2, at1, _, rfl, q⟩) (if2 (fun c => ?_) (fun c => ?_))⟩
  · refine ⟨_, rfl, sz, fun r hr' => k r _ (same_new hr' _) ⟨_, upd_same, ?_⟩⟩
    rw [l1.non_iff, l2.non_iff] at c
    simp only [hears]
    rcases c with c | c
    · rw [c]
      rfl
    · rw [c]
      cases (hears x h).2 <;> rfl
  · refine ⟨_, rfl, _, rfl, r1, _, _, _, rfl, rfl, SqT.of o1, at1, _, rfl, r2, _, _, _, rfl, rfl, SqT.of o2, at1, sz, fun p hp => ⟨sz, fun r hr' => ?_⟩⟩
    rw [l1.non_iff, l2.non_iff, not_or] at c
    have s1 := (same_new hp (.tup [.int 5, w1, w2])).trans (same_new hr' (.tup [.bl ((hears x h).1 || (hears y h).1), .ref p]))
    refine k r _ s1 ⟨_, upd_same, ?_⟩
    simp only [hears]
    cases e1 : (hears x h).2 with
    | none => exact absurd e1 c.1
    | some u1 =>
      cases e2 : (hears y h).2 with
      | none => exact absurd e2 c.2
      | some u2 =>
        rw [e1] at l1
        rw [e2] at l2
        exact .first (same_new hr' _ _ _ upd_same) (l1.same s1) (l2.same s1)
theorem sc_j3 : FnScope ["one", "two", "fires"] ["one", "two"] (defScope s_join_until) := ⟨rfl, rfl, rfl, by decide +kernel, rfl, by decide +kernel, by decide +kernel⟩
theorem ok_join_until (D : DefAt K mg "join_until" s_join_until ["one", "two"]) (T : Cs mg) : Cal P w K mg base 1 "join_until" ["one", "two"] (spJ .until_) := by
  obtain ⟨f, fd, F, b, m⟩ := D
  refine ⟨f, fd, F.ok sc_j3 (fun vs H Q E h => ?_) (fun cdv A outer s H vs Q E hr h => ?_), b, F.kp, m⟩
  · obtain ⟨v, t, _, _, h, rfl, _⟩ := h
    rfl
  obtain ⟨r1, r2, x, y, h, rfl, ⟨w1, o1, l1⟩, ⟨w2, o2, l2⟩, k⟩ := h
  refine ⟨_, pss_cons (ps_set (i := 2) sc_j3.nd rfl (Or.inl rfl) (pe_orP (mono_ix mono_v mono_c) (pe_ix ix_tup (pv 0) (pg_ci T.fires) (fun _ _ => rfl)) (pe_one (pe_ix ix_tup (pv 1) (pg_ci T.fires) (fun _ _ => rfl)))))
    (pss_cons (ps_if (pw_or (pt_val (pe_ix ix_tup (pv 1) (pg_ci T.fires) (fun _ _ => rfl))) (pw_or1 (pt_cmp (pc_isN (pe_ix ix_tup (pv 0) (pg_ci T.left) (fun _ _ => rfl)))))).pt
      (pss_one (ps_ret (pe_tup (pa_cons (pv 2) (pa_cons pe_non pa_nil))))) pss_nil)
    (pss_one (ps_ret (pe_tup (pa_cons (pv 2) (pa_cons (pe_tup (pa_cons (pg_ci T.until_) (pa_cons (pe_ix ix_tup (pv 0) (pg_ci T.left) (fun _ _ => rfl)) (pa_cons (pe_ix ix_tup (pv 1) (pg_ci T.left) (fun _ _ => rfl)) pa_nil)))) pa_nil)))))), ?_⟩
  refine ⟨_, rfl, r1, _, _, _, rfl, rfl, SqT.of o1, at0, _, (hears y h).1, rfl, fun R q => ⟨_, rfl, r2, _, _, _, rfl, rfl, SqT.of o2, at0, q⟩, ?_⟩
  refine ⟨_, rfl, r2, _, _, _, rfl, rfl, SqT.of o2, at0, _, rfl, or2b (c2 := decide (w1 = .non)) (fun q => ⟨_, rfl, r1, _, _, _, rfl, rfl, SqT.of o1, at1, _, rfl, q⟩) (ifB (fun c => ?_) (fun c => ?_))⟩
  · refine ⟨_, rfl, sz, fun r hr' => k r _ (same_new hr' _) ?_⟩
    rw [Bool.or_eq_true, decide_eq_true_iff, l1.non_iff] at c
    simp only [hears]
    by_cases d : (hears y h).1 = true
    · rw [if_pos d]
      exact ⟨_, by rw [upd_same, d, Bool.or_true], rfl⟩
    · rw [if_neg d]
      rcases c with c | c
      · exact absurd c d
      · rw [c]
        exact ⟨_, by rw [upd_same, Bool.eq_false_iff.mpr d, Bool.or_false], rfl⟩
  · refine ⟨_, rfl, _, rfl, r1, _, _, _, rfl, rfl, SqT.of o1, at1, _, rfl, r2, _, _, _, rfl, rfl, SqT.of o2, at1, sz, fun p hp => ⟨sz, fun r hr' => ?_⟩⟩
    rw [Bool.or_eq_false_iff, decide_eq_false_iff_not, l1.non_iff] at c
    have s1 := (same_new hp (.tup [.int 8, w1, w2])).trans (same_new hr' (.tup [.bl ((hears x h).1 || (hears y h).1), .ref p]))
    refine k r _ s1 ?_
    obtain ⟨u2, e2⟩ := still c.1
    cases e1 : (hears x h).2 with
    | none => exact absurd e1 c.2
    | some u1 =>
      rw [e1] at l1
      rw [e2] at l2
      have e : hears (.until_ x y) h = ((hears x h).1, some (.until_ u1 u2)) := by simp only [hears, c.1, e1, e2, Bool.false_eq_true, if_false]
      rw [e]
      exact ⟨_, by rw [upd_same, c.1, Bool.or_false], .until_ (same_new hr' _ _ _ upd_same) (l1.same s1) (l2.same s1)⟩
theorem sc_j2 : FnScope ["one", "two"] ["one", "two"] (defScope s_join_both) := ⟨rfl, rfl, rfl, by decide +kernel, rfl, by decide +kernel, by decide +kernel⟩
theorem ok_join_both (D : DefAt K mg "join_both" s_join_both ["one", "two"]) (T : Cs mg) : Cal P w K mg base 1 "join_both" ["one", "two"] (spJ (.both false false)) := by
  obtain ⟨f, fd, F, b, m⟩ := D
  refine ⟨f, fd, F.ok sc_j2 (fun vs H Q E h => ?_) (fun cdv A outer s H vs Q E hr h => ?_), b, F.kp, m⟩
  · obtain ⟨v, t, _, _, h, rfl, _⟩ := h
    rfl
  obtain ⟨r1, r2, x, y, h, rfl, ⟨w1, o1, l1⟩, ⟨w2, o2, l2⟩, k⟩ := h
  refine ⟨_, pss_cons (ps_if (pw_and (pt_val (pe_ix ix_tup (pv 0) (pg_ci T.fires) (fun _ _ => rfl))) (pw_and1 (pt_val (pe_ix ix_tup (pv 1) (pg_ci T.fires) (fun _ _ => rfl))))).pt
      (pss_one (ps_ret (pe_tup (pa_cons pe_bl (pa_cons pe_non pa_nil))))) pss_nil)
    (pss_cons (ps_if (pt_val (pe_ix ix_tup (pv 0) (pg_ci T.fires) (fun _ _ => rfl)))
      (pss_one (ps_ret (pe_tup (pa_cons pe_bl (pa_cons (pe_tup (pa_cons (pg_ci T.once) (pa_cons (pe_ix ix_tup (pv 1) (pg_ci T.left) (fun _ _ => rfl)) pa_nil))) pa_nil))))) pss_nil)
    (pss_cons (ps_if (pt_val (pe_ix ix_tup (pv 1) (pg_ci T.fires) (fun _ _ => rfl)))
      (pss_one (ps_ret (pe_tup (pa_cons pe_bl (pa_cons (pe_tup (pa_cons (pg_ci T.once) (pa_cons (pe_ix ix_tup (pv 0) (pg_ci T.left) (fun _ _ => rfl)) pa_nil))) pa_nil))))) pss_nil)
    (pss_one (ps_ret (pe_tup (pa_cons pe_bl (pa_cons (pe_tup (pa_cons (pg_ci T.both) (pa_cons (pe_ix ix_tup (pv 0) (pg_ci T.left) (fun _ _ => rfl)) (pa_cons (pe_ix ix_tup (pv 1) (pg_ci T.left) (fun _ _ => rfl)) pa_nil)))) pa_nil))))))), ?_⟩
  refine ⟨_, rfl, r1, _, _, _, rfl, rfl, SqT.of o1, at0, _, rfl, and2b (c2 := (hears y h).1) (fun q => ⟨_, rfl, r2, _, _, _, rfl, rfl, SqT.of o2, at0, _, rfl, q⟩) (ifB (fun c => ?_) (fun c => ?_))⟩
  · refine ⟨sz, fun r hr' => k r _ (same_new hr' _) ?_⟩
    rw [Bool.and_eq_true] at c
    simp only [hears, c.1, c.2, Bool.false_eq_true, if_false, if_true, Bool.false_or, Bool.true_and]
    exact ⟨_, upd_same, rfl⟩
  refine ⟨_, rfl, r1, _, _, _, rfl, rfl, SqT.of o1, at0, _, rfl, ifB (fun c1 => ?_) (fun c1 => ?_)⟩
  · rw [c1, Bool.true_and] at c
    obtain ⟨u2, e2⟩ := still c
    rw [e2] at l2
    refine ⟨_, rfl, r2, _, _, _, rfl, rfl, SqT.of o2, at1, sz, fun p hp => ⟨sz, fun r hr' => ?_⟩⟩
    have s1 := (same_new hp (.tup [.int 10, w2])).trans (same_new hr' (.tup [.bl false, .ref p]))
    refine k r _ s1 ?_
    simp only [hears, c1, c, e2, Bool.false_eq_true, if_false, Bool.false_or, Bool.true_and, Option.getD_some]
    exact ⟨_, upd_same, .onceR (same_new hr' _ _ _ upd_same) (l2.same s1)⟩
  obtain ⟨u1, e1⟩ := still c1
  rw [e1] at l1
  refine ⟨_, rfl, r2, _, _, _, rfl, rfl, SqT.of o2, at0, _, rfl, ifB (fun c2 => ?_) (fun c2 => ?_)⟩
  · refine ⟨_, rfl, r1, _, _, _, rfl, rfl, SqT.of o1, at1, sz, fun p hp => ⟨sz, fun r hr' => ?_⟩⟩
    have s1 := (same_new hp (.tup [.int 10, w1])).trans (same_new hr' (.tup [.bl false, .ref p]))
    refine k r _ s1 ?_
    simp only [hears, c1, c2, e1, Bool.false_eq_true, if_false, Bool.false_or, Bool.false_and, Option.getD_some]
    exact ⟨_, upd_same, .onceL (same_new hr' _ _ _ upd_same) (l1.same s1)⟩
  · obtain ⟨u2, e2⟩ := still c2
    rw [e2] at l2
    refine ⟨_, rfl, r1, _, _, _, rfl, rfl, SqT.of o1, at1, _, rfl, r2, _, _, _, rfl, rfl, SqT.of o2, at1, sz, fun p hp => ⟨sz, fun r hr' => ?_⟩⟩
    have s1 := (same_new hp (.tup [.int 6, w1, w2])).trans (same_new hr' (.tup [.bl false, .ref p]))
    refine k r _ s1 ?_
    simp only [hears, c1, c2, e1, e2, Bool.false_eq_true, if_false, Bool.false_or, Bool.false_and, Option.getD_some]
    exact ⟨_, upd_same, .both (same_new hr' _ _ _ upd_same) (l1.same s1) (l2.same s1)⟩
theorem sc_ha : FnScope ["trigger", "heard", "part", "left"] ["trigger", "heard"] (defScope s_hear_again) := ⟨rfl, rfl, rfl, by decide +kernel, rfl, by decide +kernel, by decide +kernel⟩
theorem ok_hear_again {k n : Nat} (D : DefAt K mg "hear_again" s_hear_again ["trigger", "heard"]) (T : Cs mg) (C : Cal P w K mg base k "hear" ["trigger", "heard"] (spHr fun t => dep t ≤ n)) :
    Cal P w K mg base (k + 1) "hear_again" ["trigger", "heard"] (spHr fun t => sortOf t = 4 ∧ dep t ≤ n + 1) := by
  obtain ⟨f, fd, F, b, m⟩ := D
  refine ⟨f, fd, F.ok sc_ha (fun vs H Q E h => ?_) (fun cdv A outer s H vs Q E hr h => ?_), b, F.kp, m⟩
  · obtain ⟨v, t, h, rfl, _⟩ := h
    rfl
  obtain ⟨v, t, h, rfl, hT, ⟨ok, dp⟩, q⟩ := h
  obtain ⟨a, v1, v2, t0, x, rfl, rfl, ha, h1, h2⟩ := hT.is4 ok
  simp only [dep] at dp
  refine ⟨_, pss_cons (ps_set (i := 2) sc_ha.nd rfl (Or.inl rfl) (pe_cal C hr (pa_cons (pe_ix ix_tup (pv 0) pe_int (fun _ _ => rfl)) (pa_cons (pv 1) pa_nil))))
    (pss_cons (ps_set (i := 3) sc_ha.nd rfl (Or.inl rfl) (pe_ix ix_tup (pv 2) (pg_ci T.left) (fun _ _ => rfl)))
    (pss_cons (ps_if (pt_cmp (pc_isN (pv 3))) (pss_one (ps_set (i := 3) sc_ha.nd rfl (Or.inl rfl) (pe_ix ix_tup (pv 0) pe_int (fun _ _ => rfl)))) pss_nil)
    (pss_one (ps_ret (pe_tup (pa_cons (pe_ix ix_tup (pv 2) (pg_ci T.fires) (fun _ _ => rfl)) (pa_cons (pe_tup (pa_cons (pg_ci T.again) (pa_cons (pe_ix ix_tup (pv 0) pe_int (fun _ _ => rfl)) (pa_cons (pv 3) pa_nil)))) pa_nil))))))), ?_⟩
  refine ⟨_, rfl, a, _, _, _, rfl, rfl, SqT.of ha, at2, _, rfl, v2, x, h, rfl, h2, by omega, fun r H1 s1 ⟨w1, o1, l1⟩ => ?_⟩
  refine ⟨_, rfl, r, _, _, _, rfl, rfl, SqT.of o1, at1, ?_⟩
  refine ⟨_, rfl, _, rfl, if2 (fun c => ?_) (fun c => ?_)⟩
  · refine ⟨_, rfl, a, _, _, _, rfl, rfl, SqT.of (s1 _ _ ha), at1, ?_⟩
    refine ⟨_, rfl, r, _, _, _, rfl, rfl, SqT.of o1, at0, _, rfl, a, _, _, _, rfl, rfl, SqT.of (s1 _ _ ha), at1, _, rfl, sz, fun p hp => ⟨sz, fun r' hr' => ?_⟩⟩
    rw [l1.non_iff] at c
    have s2 := s1.trans ((same_new hp (.tup [.int 4, v1, v1])).trans (same_new hr' (.tup [.bl (hears x h).1, .ref p])))
    refine q r' _ s2 ?_
    have e : hears (.again t0 x) h = ((hears x h).1, some (.again t0 (begun t0))) := by simp only [hears, c, Option.getD_none]
    rw [e]
    exact ⟨_, upd_same, .again (same_new hr' _ _ _ upd_same) (h1.same s2) (h1.same s2)⟩
  · refine ⟨_, rfl, r, _, _, _, rfl, rfl, SqT.of o1, at0, _, rfl, a, _, _, _, rfl, rfl, SqT.of (s1 _ _ ha), at1, _, rfl, sz, fun p hp => ⟨sz, fun r' hr' => ?_⟩⟩
    rw [l1.non_iff] at c
    have s3 := (same_new hp (.tup [.int 4, v1, w1])).trans (same_new hr' (.tup [.bl (hears x h).1, .ref p]))
    have s2 := s1.trans s3
    refine q r' _ s2 ?_
    cases e1 : (hears x h).2 with
    | none => exact absurd e1 c
    | some u =>
      rw [e1] at l1
      have e : hears (.again t0 x) h = ((hears x h).1, some (.again t0 u)) := by simp only [hears, e1, Option.getD_some]
      rw [e]
      exact ⟨_, upd_same, .again (same_new hr' _ _ _ upd_same) (h1.same s2) (l1.same s3)⟩
theorem sc_ht : FnScope ["trigger", "heard", "part"] ["trigger", "heard"] (defScope s_hear_turn) := ⟨rfl, rfl, rfl, by decide +kernel, rfl, by decide +kernel, by decide +kernel⟩
theorem ok_hear_turn {k n : Nat} (D : DefAt K mg "hear_turn" s_hear_turn ["trigger", "heard"]) (T : Cs mg) (C : Cal P w K mg base k "hear" ["trigger", "heard"] (spHr fun t => dep t ≤ n)) :
    Cal P w K mg base (k + 1) "hear_turn" ["trigger", "heard"] (spHr fun t => sortOf t = 7 ∧ dep t ≤ n + 1) := by
  obtain ⟨f, fd, F, b, m⟩ := D
  refine ⟨f, fd, F.ok sc_ht (fun vs H Q E h => ?_) (fun cdv A outer s H vs Q E hr h => ?_), b, F.kp, m⟩
  · obtain ⟨v, t, h, rfl, _⟩ := h
    rfl
  obtain ⟨v, t, h, rfl, hT, ⟨ok, dp⟩, q⟩ := h
  obtain ⟨a, v1, v2, x, t0, rfl, rfl, ha, h1, h2⟩ := hT.is7 ok
  simp only [dep] at dp
  refine ⟨_, pss_cons (ps_set (i := 2) sc_ht.nd rfl (Or.inl rfl) (pe_cal C hr (pa_cons (pe_ix ix_tup (pv 0) pe_int (fun _ _ => rfl)) (pa_cons (pv 1) pa_nil))))
    (pss_cons (ps_if (pt_cmp (pc_isN (pe_ix ix_tup (pv 2) (pg_ci T.left) (fun _ _ => rfl)))) (pss_one (ps_ret (pe_tup (pa_cons (pe_ix ix_tup (pv 2) (pg_ci T.fires) (fun _ _ => rfl)) (pa_cons (pe_ix ix_tup (pv 0) pe_int (fun _ _ => rfl)) pa_nil))))) pss_nil)
    (pss_one (ps_ret (pe_tup (pa_cons (pe_ix ix_tup (pv 2) (pg_ci T.fires) (fun _ _ => rfl)) (pa_cons (pe_tup (pa_cons (pg_ci T.turn) (pa_cons (pe_ix ix_tup (pv 2) (pg_ci T.left) (fun _ _ => rfl)) (pa_cons (pe_ix ix_tup (pv 0) pe_int (fun _ _ => rfl)) pa_nil)))) pa_nil)))))), ?_⟩
  refine ⟨_, rfl, a, _, _, _, rfl, rfl, SqT.of ha, at1, _, rfl, v1, x, h, rfl, h1, by omega, fun r H1 s1 ⟨w1, o1, l1⟩ => ?_⟩
  refine ⟨_, rfl, r, _, _, _, rfl, rfl, SqT.of o1, at1, _, rfl, if2 (fun c => ?_) (fun c => ?_)⟩
  · refine ⟨_, rfl, r, _, _, _, rfl, rfl, SqT.of o1, at0, _, rfl, a, _, _, _, rfl, rfl, SqT.of (s1 _ _ ha), at2, sz, fun r' hr' => ?_⟩
    rw [l1.non_iff] at c
    have s2 := s1.trans (same_new hr' (.tup [.bl (hears x h).1, v2]))
    refine q r' _ s2 ?_
    have e : hears (.turn x t0) h = ((hears x h).1, some (begun t0)) := by simp only [hears, c]
    rw [e]
    exact ⟨_, upd_same, h2.same s2⟩
  · refine ⟨_, rfl, r, _, _, _, rfl, rfl, SqT.of o1, at0, _, rfl, r, _, _, _, rfl, rfl, SqT.of o1, at1, _, rfl, a, _, _, _, rfl, rfl, SqT.of (s1 _ _ ha), at2, sz, fun p hp => ⟨sz, fun r' hr' => ?_⟩⟩
    rw [l1.non_iff] at c
    have s3 := (same_new hp (.tup [.int 7, w1, v2])).trans (same_new hr' (.tup [.bl (hears x h).1, .ref p]))
    have s2 := s1.trans s3
    refine q r' _ s2 ?_
    cases e1 : (hears x h).2 with
    | none => exact absurd e1 c
    | some u =>
      rw [e1] at l1
      have e : hears (.turn x t0) h = ((hears x h).1, some (.turn u t0)) := by simp only [hears, e1]
      rw [e]
      exact ⟨_, upd_same, .turn (same_new hr' _ _ _ upd_same) (l1.same s3) (h2.same s2)⟩
theorem sc_ho : FnScope ["trigger", "heard", "part"] ["trigger", "heard"] (defScope s_hear_once) := ⟨rfl, rfl, rfl, by decide +kernel, rfl, by decide +kernel, by decide +kernel⟩
theorem ok_hear_once {k n : Nat} (D : DefAt K mg "hear_once" s_hear_once ["trigger", "heard"]) (T : Cs mg) (C : Cal P w K mg base k "hear" ["trigger", "heard"] (spHr fun t => dep t ≤ n)) :
    Cal P w K mg base (k + 1) "hear_once" ["trigger", "heard"] (spHr fun t => sortOf t = 10 ∧ dep t ≤ n + 1) := by
  obtain ⟨f, fd, F, b, m⟩ := D
  refine ⟨f, fd, F.ok sc_ho (fun vs H Q E h => ?_) (fun cdv A outer s H vs Q E hr h => ?_), b, F.kp, m⟩
  · obtain ⟨v, t, h, rfl, _⟩ := h
    rfl
  obtain ⟨v, t, h, rfl, hT, ⟨ok, dp⟩, q⟩ := h
  obtain ⟨a, v1, x, y, rfl, ha, hh⟩ := hT.is10 ok
  obtain ⟨z, hz, dz, e1, e2⟩ : ∃ z, TrAt H v1 z ∧ dep z ≤ n ∧ ((hears z h).1 = true → hears t h = (true, none)) ∧ (∀ u, (hears z h).1 = false → (hears z h).2 = some u →
      ∃ t', hears t h = (false, some t') ∧ ∀ (H' : Hp) (p : Addr) (w : V), H' p = some (.tup [.int 10, w]) → TrAt H' w u → TrAt H' (.ref p) t') := by
    rcases hh with ⟨rfl, hh⟩ | ⟨rfl, hh⟩
    · simp only [dep] at dp
      refine ⟨y, hh, by omega, fun c => ?_, fun u c e => ⟨.both true false x u, ?_, fun H' p w e1 e2 => .onceR e1 e2⟩⟩
      · simp only [hears, c, Bool.true_or, Bool.false_or, Bool.true_and, if_true, Bool.false_eq_true, if_false]
      · simp only [hears, c, e, Bool.true_or, Bool.false_or, Bool.true_and, if_true, Bool.false_eq_true, if_false, Option.getD_some]
    · simp only [dep] at dp
      refine ⟨x, hh, by omega, fun c => ?_, fun u c e => ⟨.both false true u y, ?_, fun H' p w e1 e2 => .onceL e1 e2⟩⟩
      · simp only [hears, c, Bool.true_or, Bool.false_or, Bool.true_and, if_true, Bool.false_eq_true, if_false]
      · simp only [hears, c, e, Bool.true_or, Bool.false_or, Bool.false_and, if_true, Bool.false_eq_true, if_false, Option.getD_some]
  refine ⟨_, pss_cons (ps_set (i := 2) sc_ho.nd rfl (Or.inl rfl) (pe_cal C hr (pa_cons (pe_ix ix_tup (pv 0) pe_int (fun _ _ => rfl)) (pa_cons (pv 1) pa_nil))))
    (pss_cons (ps_if (pt_val (pe_ix ix_tup (pv 2) (pg_ci T.fires) (fun _ _ => rfl))) (pss_one (ps_ret (pe_tup (pa_cons pe_bl (pa_cons pe_non pa_nil))))) pss_nil)
    (pss_one (ps_ret (pe_tup (pa_cons pe_bl (pa_cons (pe_tup (pa_cons (pg_ci T.once) (pa_cons (pe_ix ix_tup (pv 2) (pg_ci T.left) (fun _ _ => rfl)) pa_nil))) pa_nil)))))), ?_⟩
  refine ⟨_, rfl, a, _, _, _, rfl, rfl, SqT.of ha, at1, _, rfl, v1, z, h, rfl, hz, dz, fun r H1 s1 ⟨w1, o1, l1⟩ => ?_⟩
  refine ⟨_, rfl, r, _, _, _, rfl, rfl, SqT.of o1, at0, _, rfl, ifB (fun c => ?_) (fun c => ?_)⟩
  · refine ⟨sz, fun r' hr' => q r' _ (s1.trans (same_new hr' _)) ?_⟩
    rw [e1 c]
    exact ⟨_, upd_same, rfl⟩
  · refine ⟨_, rfl, r, _, _, _, rfl, rfl, SqT.of o1, at1, sz, fun p hp => ⟨sz, fun r' hr' => ?_⟩⟩
    obtain ⟨u, e⟩ := still c
    obtain ⟨t', e3, e4⟩ := e2 u c e
    rw [e] at l1
    have s3 := (same_new hp (.tup [.int 10, w1])).trans (same_new hr' (.tup [.bl false, .ref p]))
    refine q r' _ (s1.trans s3) ?_
    rw [e3]
    exact ⟨_, upd_same, e4 _ _ _ (same_new hr' _ _ _ upd_same) (l1.same s3)⟩
theorem sc_he : FnScope ["trigger", "heard", "sort", "one", "two"] ["trigger", "heard"] (defScope s_hear) := ⟨rfl, rfl, rfl, by decide +kernel, rfl, by decide +kernel, by decide +kernel⟩
theorem ok_hear1 {k n : Nat} (hk : 2 ≤ k) (D : DefAt K mg "hear" s_hear ["trigger", "heard"]) (T : Cs mg) (C : Cal P w K mg base k "hear" ["trigger", "heard"] (spHr fun t => dep t ≤ n))
    (CS : Cal P w K mg base 2 "hear_simple" ["trigger", "heard"] (spHr simp_)) (CA : Cal P w K mg base (k + 1) "hear_again" ["trigger", "heard"] (spHr fun t => sortOf t = 4 ∧ dep t ≤ n + 1))
    (CT : Cal P w K mg base (k + 1) "hear_turn" ["trigger", "heard"] (spHr fun t => sortOf t = 7 ∧ dep t ≤ n + 1)) (CO : Cal P w K mg base (k + 1) "hear_once" ["trigger", "heard"] (spHr fun t => sortOf t = 10 ∧ dep t ≤ n + 1))
    (J1 : Cal P w K mg base 1 "join_first" ["one", "two"] (spJ .first)) (J2 : Cal P w K mg base 1 "join_both" ["one", "two"] (spJ (.both false false))) (J3 : Cal P w K mg base 1 "join_until" ["one", "two"] (spJ .until_)) :
    Cal P w K mg base (k + 2) "hear" ["trigger", "heard"] (spHr fun t => dep t ≤ n + 1) := by
  obtain ⟨f, fd, F, b, m⟩ := D
  refine ⟨f, fd, F.ok sc_he (fun vs H Q E h => ?_) (fun cdv A outer s H vs Q E hr h => ?_), b, F.kp, m⟩
  · obtain ⟨v, t, h, rfl, _⟩ := h
    rfl
  obtain ⟨v, t, h, rfl, hT, dp, q⟩ := h
  have hr1 : Room 1 _ := hr.mono (show 1 ≤ k + 1 by omega)
  have hrk : Room k _ := hr.mono (show k ≤ k + 1 by omega)
  refine ⟨_, pss_cons (ps_set (i := 2) sc_he.nd rfl (Or.inl rfl) (pe_ix ix_tup (pv 0) pe_int (fun _ _ => rfl)))
    (pss_cons (ps_if (pw_or (pt_cmp (pc_le (pv 2) (pg_ci T.never))) (pw_or1 (pt_cmp (pc_eqI (pv 2) (pg_ci T.delaying))))).pt
      (pss_one (ps_ret (pe_cal CS (hr.mono (show 2 ≤ k + 1 by omega)) (pa_cons (pv 0) (pa_cons (pv 1) pa_nil))))) pss_nil)
    (pss_cons (ps_if (pt_cmp (pc_eqI (pv 2) (pg_ci T.again))) (pss_one (ps_ret (pe_cal CA hr (pa_cons (pv 0) (pa_cons (pv 1) pa_nil))))) pss_nil)
    (pss_cons (ps_if (pt_cmp (pc_eqI (pv 2) (pg_ci T.turn))) (pss_one (ps_ret (pe_cal CT hr (pa_cons (pv 0) (pa_cons (pv 1) pa_nil))))) pss_nil)
    (pss_cons (ps_if (pt_cmp (pc_eqI (pv 2) (pg_ci T.once))) (pss_one (ps_ret (pe_cal CO hr (pa_cons (pv 0) (pa_cons (pv 1) pa_nil))))) pss_nil)
    (pss_cons (ps_set (i := 3) sc_he.nd rfl (Or.inl rfl) (pe_cal C hrk (pa_cons (pe_ix ix_tup (pv 0) pe_int (fun _ _ => rfl)) (pa_cons (pv 1) pa_nil))))
    (pss_cons (ps_set (i := 4) sc_he.nd rfl (Or.inl rfl) (pe_cal C hrk (pa_cons (pe_ix ix_tup (pv 0) pe_int (fun _ _ => rfl)) (pa_cons (pv 1) pa_nil))))
    (pss_cons (ps_if (pt_cmp (pc_eqI (pv 2) (pg_ci T.first))) (pss_one (ps_ret (pe_cal J1 hr1 (pa_cons (pv 3) (pa_cons (pv 4) pa_nil))))) pss_nil)
    (pss_cons (ps_if (pt_cmp (pc_eqI (pv 2) (pg_ci T.both))) (pss_one (ps_ret (pe_cal J2 hr1 (pa_cons (pv 3) (pa_cons (pv 4) pa_nil))))) pss_nil)
    (pss_one (ps_ret (pe_cal J3 hr1 (pa_cons (pv 3) (pa_cons (pv 4) pa_nil))))))))))))), ?_⟩
  obtain ⟨a, xs, e, ha⟩ := hT.head
  subst e
  refine ⟨_, rfl, a, _, _, _, rfl, rfl, SqT.of ha, at0, ?_⟩
  refine ⟨_, rfl, _, _, rfl, rfl, _, rfl, or2 (c2 := sortOf t = 9) (fun q => ⟨_, rfl, _, _, rfl, rfl, _, rfl, q⟩) (if2 (fun c => ?_) (fun c0 => ?_))⟩
  · exact ⟨_, rfl, _, rfl, _, t, h, rfl, hT, c, q⟩
  refine ⟨_, rfl, _, _, rfl, rfl, _, rfl, if2 (fun c => ?_) (fun c1 => ?_)⟩
  · exact ⟨_, rfl, _, rfl, _, t, h, rfl, hT, ⟨c, dp⟩, q⟩
  refine ⟨_, rfl, _, _, rfl, rfl, _, rfl, if2 (fun c => ?_) (fun c2 => ?_)⟩
  · exact ⟨_, rfl, _, rfl, _, t, h, rfl, hT, ⟨c, dp⟩, q⟩
  refine ⟨_, rfl, _, _, rfl, rfl, _, rfl, if2 (fun c => ?_) (fun c3 => ?_)⟩
  · exact ⟨_, rfl, _, rfl, _, t, h, rfl, hT, ⟨c, dp⟩, q⟩
  obtain ⟨mk, v1, v2, x, y, rfl, hs, ha2, h1, h2⟩ : ∃ (mk : Trig → Trig → Trig) (v1 v2 : V) (x y : Trig), t = mk x y ∧ ((sortOf (mk x y) = 5 ∧ mk = .first) ∨ (sortOf (mk x y) = 6 ∧ mk = .both false false) ∨ (sortOf (mk x y) = 8 ∧ mk = .until_)) ∧ H a = some (.tup [.int (sortOf (mk x y)), v1, v2]) ∧ TrAt H v1 x ∧ TrAt H v2 y := by
    rcases sort_cases t with e | e | e | e | e | e | e | e | e | e | e <;> try omega
    · obtain ⟨a', v1, v2, x, y, e', rfl, hx, h1, h2⟩ := hT.is5 e
      cases e'
      exact ⟨_, v1, v2, x, y, rfl, .inl ⟨rfl, rfl⟩, hx, h1, h2⟩
    · obtain ⟨a', v1, v2, x, y, e', rfl, hx, h1, h2⟩ := hT.is6 e
      cases e'
      exact ⟨_, v1, v2, x, y, rfl, .inr (.inl ⟨rfl, rfl⟩), hx, h1, h2⟩
    · obtain ⟨a', v1, v2, x, y, e', rfl, hx, h1, h2⟩ := hT.is8 e
      cases e'
      exact ⟨_, v1, v2, x, y, rfl, .inr (.inr ⟨rfl, rfl⟩), hx, h1, h2⟩
  have dx : dep x ≤ n ∧ dep y ≤ n := by
    rcases hs with ⟨_, rfl⟩ | ⟨_, rfl⟩ | ⟨_, rfl⟩ <;> (simp only [dep] at dp; omega)
  refine ⟨_, rfl, a, _, _, _, rfl, rfl, SqT.of ha2, at1, _, rfl, v1, x, h, rfl, h1, dx.1, fun r1 H1 s1 o1 => ?_⟩
  refine ⟨_, rfl, a, _, _, _, rfl, rfl, SqT.of (s1 _ _ ha2), at2, _, rfl, v2, y, h, rfl, h2.same s1, dx.2, fun r2 H2 s2 o2 => ?_⟩
  refine ⟨_, rfl, _, _, rfl, rfl, _, rfl, if2 (fun c => ?_) (fun c4 => ?_)⟩
  · rcases hs with ⟨e, rfl⟩ | ⟨e, _⟩ | ⟨e, _⟩
    · exact ⟨_, rfl, _, rfl, r1, r2, x, y, h, rfl, o1.same s2, o2, fun r H3 s3 o3 => q r H3 ((s1.trans s2).trans s3) o3⟩
    · omega
    · omega
  refine ⟨_, rfl, _, _, rfl, rfl, _, rfl, if2 (fun c => ?_) (fun c5 => ?_)⟩
  · rcases hs with ⟨e, _⟩ | ⟨e, rfl⟩ | ⟨e, _⟩
    · omega
    · exact ⟨_, rfl, _, rfl, r1, r2, x, y, h, rfl, o1.same s2, o2, fun r H3 s3 o3 => q r H3 ((s1.trans s2).trans s3) o3⟩
    · omega
  · rcases hs with ⟨e, _⟩ | ⟨e, _⟩ | ⟨e, rfl⟩
    · omega
    · omega
    · exact ⟨_, rfl, _, rfl, r1, r2, x, y, h, rfl, o1.same s2, o2, fun r H3 s3 o3 => q r H3 ((s1.trans s2).trans s3) o3⟩
/-- nothing is nested 0 deep -/
theorem hear0 (D : DefAt K mg "hear" s_hear ["trigger", "heard"]) (k : Nat) : Cal P w K mg base k "hear" ["trigger", "heard"] (spHr fun t => dep t ≤ 0) := by
  obtain ⟨f, fd, F, b, m⟩ := D
  have no : ∀ vs H Q E, ¬ spHr (fun t => dep t ≤ 0) vs H Q E := fun vs H Q E h => by
    obtain ⟨v, t, h, _, _, d, _⟩ := h
    have := dep_pos t
    omega
  exact ⟨f, fd, ⟨fun vs H Q E h => absurd h (no vs H Q E), fun A outer s H args us vs Q E _ _ _ _ h => absurd h (no vs H Q E)⟩, b, F.kp, m⟩
/-- the defs of trigger.py that hear -/
structure HearDefs (K : PySem.W.Frag) (mg : Str → Option Value) : Prop where
  hear : DefAt K mg "hear" s_hear ["trigger", "heard"]
  simple : DefAt K mg "hear_simple" s_hear_simple ["trigger", "heard"]
  again : DefAt K mg "hear_again" s_hear_again ["trigger", "heard"]
  turn : DefAt K mg "hear_turn" s_hear_turn ["trigger", "heard"]
  once : DefAt K mg "hear_once" s_hear_once ["trigger", "heard"]
  cd : DefAt K mg "count_down" s_count_down ["sort", "missing"]
  sd : DefAt K mg "start_delay" s_start_delay ["ticks"]
  j1 : DefAt K mg "join_first" s_join_first ["one", "two"]
  j2 : DefAt K mg "join_both" s_join_both ["one", "two"]
  j3 : DefAt K mg "join_until" s_join_until ["one", "two"]
theorem ok_hear (D : HearDefs K mg) (T : Cs mg) : ∀ n : Nat, Cal P w K mg base (2 * n + 2) "hear" ["trigger", "heard"] (spHr fun t => dep t ≤ n)
  | 0 => hear0 D.hear _
  | n + 1 => by
    have ih := ok_hear D T n
    exact ok_hear1 (k := 2 * n + 2) (by omega) D.hear T ih (ok_hear_simple D.simple T (ok_count_down D.cd) (ok_start_delay D.sd T)) (ok_hear_again D.again T ih) (ok_hear_turn D.turn T ih) (ok_hear_once D.once T ih)
      (ok_join_first D.j1 T) (ok_join_both D.j2 T) (ok_join_until D.j3 T)
end
end M

end
section
set_option Elab.async false
set_option linter.all false
set_option maxRecDepth 100000
set_option maxHeartbeats 2000000
namespace M
open PySem PySem.Spec PyProof.Rows L2
open Hs03 (Trig T begun hears trigger?)
/-! ### reading: mathematics -/
theorem dep_read : ∀ (f : Nat) (l : List Nat) (t : T) (r : List Nat), Hs03.read f l = some (t, r) → depT t ≤ f
  | 0, l, t, r, e => by simp [Hs03.read] at e
  | f + 1, l, t, r, e => by
    have ih := dep_read f
    have one : ∀ {x : List Nat} {z : T × List Nat}, Hs03.read f x = some z → depT z.1 ≤ f := fun {x z} q => ih x z.1 z.2 q
    unfold Hs03.read at e
    split at e
    · split at e
      · simp only [Option.some.injEq, Prod.mk.injEq] at e
        obtain ⟨rfl, _⟩ := e
        simp [depT]
      · cases e
    · split at e
      · simp only [Option.some.injEq, Prod.mk.injEq] at e
        obtain ⟨rfl, _⟩ := e
        simp [depT]
      · cases e
    · simp only [Option.some.injEq, Prod.mk.injEq] at e
      obtain ⟨rfl, _⟩ := e
      simp [depT]
    · simp only [Option.some.injEq, Prod.mk.injEq] at e
      obtain ⟨rfl, _⟩ := e
      simp [depT]
    · rename_i r0
      cases q : Hs03.read f r0 with
      | none => simp [q] at e
      | some z =>
        simp only [q, Option.map_some, Option.some.injEq, Prod.mk.injEq] at e
        obtain ⟨rfl, _⟩ := e
        have := one q
        simp only [depT]
        omega
    all_goals first
      | (rename_i r0
         cases q : Hs03.read f r0 with
         | none => simp [q] at e
         | some z =>
           cases q2 : Hs03.read f z.2 with
           | none => simp [q, q2] at e
           | some z2 =>
             simp only [q, q2, Option.bind_some, Option.map_some, Option.some.injEq, Prod.mk.injEq] at e
             obtain ⟨rfl, _⟩ := e
             have h1 := one q
             have h2 := one q2
             simp only [depT]
             omega)
      | cases e
/-- a sort that has a count behind it -/
def readC : List Nat → Option (T × List Nat)
  | 0 :: n :: r => if 1 ≤ n ∧ n ≤ 1000 then some (.count n, r) else none
  | 1 :: d :: r => if d ≤ 1000 then some (.clock d, r) else none
  | _ => none
theorem readC_eq (f : Nat) : ∀ {n : Nat} {r : List Nat}, n ≤ 1 → Hs03.read (f + 1) (n :: r) = readC (n :: r)
  | 0, [], _ => rfl
  | 0, _ :: _, _ => rfl
  | 1, [], _ => rfl
  | 1, _ :: _, _ => rfl
def mk2 : Nat → T → T → T
  | 5 => .first
  | 6 => .both
  | 7 => .turn
  | _ => .until_
theorem read_2 (f : Nat) {n : Nat} {r : List Nat} (h1 : 5 ≤ n) (h2 : n ≤ 8) : Hs03.read (f + 1) (n :: r) = (Hs03.read f r).bind fun x => (Hs03.read f x.2).map fun y => (mk2 n x.1 y.1, y.2) := by
  have : n = 5 ∨ n = 6 ∨ n = 7 ∨ n = 8 := by omega
  rcases this with rfl | rfl | rfl | rfl <;> rfl
theorem read_big (f : Nat) {n : Nat} {r : List Nat} (h : 8 < n) : Hs03.read (f + 1) (n :: r) = none := by
  unfold Hs03.read
  split <;> first | rfl | (rename_i e; cases e; omega)
theorem begun_mk2 {H : Hp} {p : Addr} {v u : V} {x y : T} {n : Nat} (h1 : 5 ≤ n) (h2 : n ≤ 8) (e : H p = some (.tup [.int n, v, u])) (hv : TrAt H v (begun x)) (hu : TrAt H u (begun y)) : TrAt H (.ref p) (begun (mk2 n x y)) := by
  have : n = 5 ∨ n = 6 ∨ n = 7 ∨ n = 8 := by omega
  rcases this with rfl | rfl | rfl | rfl
  · exact .first e hv hu
  · exact .both e hv hu
  · exact .turn e hv hu
  · exact .until_ e hv hu
/-! ### promises -/
abbrev nv (l : List Nat) : List V := l.map fun n : Nat => V.int (n : Int)
theorem nv_len (l : List Nat) : (nv l).length = l.length := List.length_map _
theorem nv_at {l : List Nat} {i n : Nat} {z : Int} (e : z = (i : Int)) (h : l[i]? = some n) : atI (nv l) z = some (.int n) := at_of e (by rw [List.getElem?_map, h]; rfl)
theorem drop_at {l r : List Nat} {i n : Nat} (h : l.drop i = n :: r) : l[i]? = some n ∧ l.drop (i + 1) = r ∧ i < l.length := by
  have hi : i < l.length := by
    apply Nat.lt_of_not_le
    intro q
    rw [List.drop_eq_nil_of_le q] at h
    cases h
  rw [List.drop_eq_getElem_cons hi] at h
  injection h with h1 h2
  exact ⟨by rw [List.getElem?_eq_getElem hi, h1], h2, hi⟩
/-- what reading gives: None, or a pair of a trigger and the place behind it -/
def ResAt (H : Hp) (v : V) (l : List Nat) : Option (T × List Nat) → Prop
  | none => v = .non
  | some (t, rest) => ∃ r w, ∃ j : Nat, v = .ref r ∧ H r = some (.tup [w, .int j]) ∧ TrAt H w (begun t) ∧ j ≤ l.length ∧ rest = l.drop j
def spRC (K : PySem.W.Frag) : Sp := fun vs H Q _ => ∃ (a : Addr) (l : List Nat) (i n : Nat) (r : List Nat), vs = [.ref a, .int i] ∧ SqL K H a (nv l) ∧ l.drop i = n :: r ∧ n ≤ 1 ∧ ∀ v H', Same H H' → ResAt H' v l (readC (l.drop i)) → Q v H'
def spRd (K : PySem.W.Frag) (f : Nat) (ok : Nat → List Nat → Prop) : Sp := fun vs H Q _ => ∃ (a : Addr) (l : List Nat) (i : Nat) (d : Int), vs = [.ref a, .int i, .int d] ∧ SqL K H a (nv l) ∧ i ≤ l.length ∧ d + f = 11 ∧ ok i l ∧
  ∀ v H', Same H H' → ResAt H' v l (Hs03.read f (l.drop i)) → Q v H'
section
variable {P : Program} {w : World} {K : PySem.W.Frag} {mg : Str → Option Value} {base : Heap}
theorem sc_rc : FnScope ["numbers", "at", "sort", "counted"] ["numbers", "at"] (defScope s_read_counted) := ⟨rfl, rfl, rfl, by decide +kernel, rfl, by decide +kernel, by decide +kernel⟩
theorem ok_read_counted (D : DefAt K mg "read_counted" s_read_counted ["numbers", "at"]) (T : Cs mg) : Cal P w K mg base 1 "read_counted" ["numbers", "at"] (spRC K) := by
  obtain ⟨f, fd, F, b, m⟩ := D
  refine ⟨f, fd, F.ok sc_rc (fun vs H Q E h => ?_) (fun cdv A outer s H vs Q E hr h => ?_), b, F.kp, m⟩
  · obtain ⟨a, l, i, n, r, rfl, _⟩ := h
    rfl
  obtain ⟨a, l, i, n, r, rfl, hS, hd, hn, k⟩ := h
  refine ⟨_, pss_cons (ps_if (pt_cmp (pc_ge (pe_op op_add (pv 1) pe_int) (pe_len T.len (pv 0)))) (pss_one (ps_ret pe_non)) pss_nil)
    (pss_cons (ps_set (i := 2) sc_rc.nd rfl (Or.inl rfl) (pe_ix ix_list (pv 0) (pv 1) (fun _ _ => rfl)))
    (pss_cons (ps_set (i := 3) sc_rc.nd rfl (Or.inl rfl) (pe_ix ix_list (pv 0) (pe_op op_add (pv 1) pe_int) (fun _ _ => rfl)))
    (pss_cons (ps_if (pw_or (pt_cmp (pc_gt (pv 3) (pg_ci T.mostC))) (pw_or1 (pw_and (pt_cmp (pc_eqI (pv 3) pe_int)) (pw_and1 (pt_cmp (pc_eqI (pv 2) (pg_ci T.nth))))).pt)).pt (pss_one (ps_ret pe_non)) pss_nil)
    (pss_one (ps_ret (pe_tup (pa_cons (pe_tup (pa_cons (pv 2) (pa_cons (pv 3) pa_nil))) (pa_cons (pe_op op_add (pv 1) pe_int) pa_nil)))))))), ?_⟩
  obtain ⟨h1, h2, h3⟩ := drop_at hd
  have hl := nv_len l
  refine ⟨_, rfl, _, _, rfl, rfl, _, rfl, a, _, rfl, .inl hS, _, _, rfl, rfl, _, rfl, if2 (fun c => ?_) (fun c => ?_)⟩
  · rw [hl] at c
    have e : r = [] := by rw [← h2]; exact List.drop_eq_nil_of_le (by omega)
    refine k _ _ (Same.refl H) ?_
    rw [hd, e]
    have : n = 0 ∨ n = 1 := by omega
    rcases this with rfl | rfl <;> rfl
  rw [hl] at c
  have h4 : i + 1 < l.length := by omega
  obtain ⟨cn, hc⟩ : ∃ cn, l[i + 1]? = some cn := ⟨_, List.getElem?_eq_getElem h4⟩
  have h5 : r = cn :: l.drop (i + 2) := by
    rw [← h2, List.drop_eq_getElem_cons h4]
    rw [List.getElem?_eq_getElem h4] at hc
    rw [Option.some.inj hc]
  refine ⟨_, rfl, _, rfl, a, _, _, _, rfl, rfl, hS, nv_at rfl h1, ?_⟩
  refine ⟨_, rfl, _, rfl, _, _, rfl, rfl, a, _, _, _, rfl, rfl, hS, nv_at (by omega) hc, ?_⟩
  refine ⟨_, rfl, _, _, rfl, rfl, _, rfl, or2 (c2 := (cn : Int) = 0 ∧ (n : Int) = 0) (fun q => ⟨_, rfl, _, _, rfl, rfl, _, rfl, and2 (c2 := (n : Int) = 0) (fun q' => ⟨_, rfl, _, _, rfl, rfl, _, rfl, q'⟩) q⟩) (if2 (fun c => ?_) (fun c => ?_))⟩
  · refine k _ _ (Same.refl H) ?_
    rw [hd, h5]
    have : n = 0 ∨ n = 1 := by omega
    rcases this with rfl | rfl
    · show ResAt H .non l (if 1 ≤ cn ∧ cn ≤ 1000 then _ else _)
      rw [if_neg (by omega)]
      rfl
    · show ResAt H .non l (if cn ≤ 1000 then _ else _)
      rw [if_neg (by omega)]
      rfl
  · refine ⟨_, rfl, _, rfl, sz, fun p hp => ⟨_, rfl, _, _, rfl, rfl, sz, fun r' hr' => ?_⟩⟩
    refine k _ _ ((same_new hp _).trans (same_new hr' _)) ?_
    rw [hd, h5]
    have hp' := same_new hr' (.tup [.ref p, .int ((i : Int) + 2)]) _ _ (upd_same (H := H) (a := p) (o := .tup [.int n, .int cn]))
    have : n = 0 ∨ n = 1 := by omega
    rcases this with rfl | rfl
    · show ResAt _ _ l (if 1 ≤ cn ∧ cn ≤ 1000 then _ else _)
      rw [if_pos (by omega)]
      exact ⟨r', .ref p, i + 2, rfl, upd_same, .count hp' (by omega), by omega, rfl⟩
    · show ResAt _ _ l (if cn ≤ 1000 then _ else _)
      rw [if_pos (by omega)]
      exact ⟨r', .ref p, i + 2, rfl, upd_same, .clock0 hp', by omega, rfl⟩
theorem sc_ra : FnScope ["numbers", "at", "depth", "part"] ["numbers", "at", "depth"] (defScope s_read_again) := ⟨rfl, rfl, rfl, by decide +kernel, rfl, by decide +kernel, by decide +kernel⟩
theorem ok_read_again {k g : Nat} (D : DefAt K mg "read_again" s_read_again ["numbers", "at", "depth"]) (T : Cs mg) (C : Cal P w K mg base k "read_at" ["numbers", "at", "depth"] (spRd K g fun _ _ => True)) :
    Cal P w K mg base (k + 1) "read_again" ["numbers", "at", "depth"] (spRd K (g + 1) fun i l => ∃ r, l.drop i = 4 :: r) := by
  obtain ⟨f, fd, F, b, m⟩ := D
  refine ⟨f, fd, F.ok sc_ra (fun vs H Q E h => ?_) (fun cdv A outer s H vs Q E hr h => ?_), b, F.kp, m⟩
  · obtain ⟨a, l, i, d, rfl, _⟩ := h
    rfl
  obtain ⟨a, l, i, d, rfl, hS, hi, hg, ⟨r, hd⟩, q⟩ := h
  refine ⟨_, pss_cons (ps_set (i := 3) sc_ra.nd rfl (Or.inl rfl) (pe_cal C hr (pa_cons (pv 0) (pa_cons (pe_op op_add (pv 1) pe_int) (pa_cons (pe_op op_add (pv 2) pe_int) pa_nil)))))
    (pss_cons (ps_if (pt_cmp (pc_isN (pv 3))) (pss_one (ps_ret pe_non)) pss_nil)
    (pss_one (ps_ret (pe_tup (pa_cons (pe_tup (pa_cons (pg_ci T.again) (pa_cons (pe_ix ix_tup (pv 3) pe_int (fun _ _ => rfl)) (pa_cons (pe_ix ix_tup (pv 3) pe_int (fun _ _ => rfl)) pa_nil)))) (pa_cons (pe_ix ix_tup (pv 3) pe_int (fun _ _ => rfl)) pa_nil)))))), ?_⟩
  obtain ⟨h1, h2, h3⟩ := drop_at hd
  refine ⟨_, rfl, _, rfl, _, _, rfl, rfl, _, rfl, _, _, rfl, rfl, a, l, i + 1, d + 1, rfl, hS, by omega, by omega, trivial, fun v H1 s1 hv => ?_⟩
  rw [h2] at hv
  have er : Hs03.read (g + 1) (l.drop i) = (Hs03.read g r).map fun x => (.again x.1, x.2) := by rw [hd]; rfl
  rw [er] at q
  cases e : Hs03.read g r with
  | none =>
    rw [e] at hv q
    obtain rfl : v = .non := hv
    refine ⟨_, rfl, _, rfl, ifT rfl ?_⟩
    exact q _ _ s1 rfl
  | some z =>
    obtain ⟨t, rest⟩ := z
    rw [e] at hv q
    obtain ⟨p, u, j, rfl, hp, ht, hj, hrest⟩ := hv
    refine ⟨_, rfl, _, rfl, ifF (fun z => nomatch z) ?_⟩
    refine ⟨_, rfl, p, _, _, _, rfl, rfl, SqT.of hp, at0, _, rfl, p, _, _, _, rfl, rfl, SqT.of hp, at0, sz, fun p1 hp1 => ?_⟩
    have s2 := same_new hp1 (.tup [.int 4, u, u])
    refine ⟨_, rfl, p, _, _, _, rfl, rfl, SqT.of (s2 _ _ hp), at1, sz, fun p2 hp2 => ?_⟩
    have s3 := s2.trans (same_new hp2 (.tup [.ref p1, .int j]))
    exact q _ _ (s1.trans s3) ⟨p2, .ref p1, j, rfl, upd_same, .again (same_new hp2 _ _ _ upd_same) (ht.same s3) (ht.same s3), hj, hrest⟩
theorem sc_r2 : FnScope ["numbers", "at", "depth", "one", "two"] ["numbers", "at", "depth"] (defScope s_read_two) := ⟨rfl, rfl, rfl, by decide +kernel, rfl, by decide +kernel, by decide +kernel⟩
theorem ok_read_two {k g : Nat} (D : DefAt K mg "read_two" s_read_two ["numbers", "at", "depth"]) (C : Cal P w K mg base k "read_at" ["numbers", "at", "depth"] (spRd K g fun _ _ => True)) :
    Cal P w K mg base (k + 1) "read_two" ["numbers", "at", "depth"] (spRd K (g + 1) fun i l => ∃ n r, l.drop i = n :: r ∧ 5 ≤ n ∧ n ≤ 8) := by
  obtain ⟨f, fd, F, b, m⟩ := D
  refine ⟨f, fd, F.ok sc_r2 (fun vs H Q E h => ?_) (fun cdv A outer s H vs Q E hr h => ?_), b, F.kp, m⟩
  · obtain ⟨a, l, i, d, rfl, _⟩ := h
    rfl
  obtain ⟨a, l, i, d, rfl, hS, hi, hg, ⟨n, r, hd, hn1, hn2⟩, q⟩ := h
  refine ⟨_, pss_cons (ps_set (i := 3) sc_r2.nd rfl (Or.inl rfl) (pe_cal C hr (pa_cons (pv 0) (pa_cons (pe_op op_add (pv 1) pe_int) (pa_cons (pe_op op_add (pv 2) pe_int) pa_nil)))))
    (pss_cons (ps_if (pt_cmp (pc_isN (pv 3))) (pss_one (ps_ret pe_non)) pss_nil)
    (pss_cons (ps_set (i := 4) sc_r2.nd rfl (Or.inl rfl) (pe_cal C hr (pa_cons (pv 0) (pa_cons (pe_ix ix_tup (pv 3) pe_int (fun _ _ => rfl)) (pa_cons (pe_op op_add (pv 2) pe_int) pa_nil)))))
    (pss_cons (ps_if (pt_cmp (pc_isN (pv 4))) (pss_one (ps_ret pe_non)) pss_nil)
    (pss_one (ps_ret (pe_tup (pa_cons (pe_tup (pa_cons (pe_ix ix_list (pv 0) (pv 1) (fun _ _ => rfl)) (pa_cons (pe_ix ix_tup (pv 3) pe_int (fun _ _ => rfl)) (pa_cons (pe_ix ix_tup (pv 4) pe_int (fun _ _ => rfl)) pa_nil)))) (pa_cons (pe_ix ix_tup (pv 4) pe_int (fun _ _ => rfl)) pa_nil)))))))), ?_⟩
  obtain ⟨h1, h2, h3⟩ := drop_at hd
  refine ⟨_, rfl, _, rfl, _, _, rfl, rfl, _, rfl, _, _, rfl, rfl, a, l, i + 1, d + 1, rfl, hS, by omega, by omega, trivial, fun v H1 s1 hv => ?_⟩
  rw [h2] at hv
  rw [hd, read_2 g hn1 hn2] at q
  cases e : Hs03.read g r with
  | none =>
    rw [e] at hv q
    obtain rfl : v = .non := hv
    refine ⟨_, rfl, _, rfl, ifT rfl ?_⟩
    exact q _ _ s1 rfl
  | some z =>
    obtain ⟨t, rest⟩ := z
    rw [e] at hv q
    obtain ⟨p, u, j, rfl, hp, ht, hj, hrest⟩ := hv
    refine ⟨_, rfl, _, rfl, ifF (fun z => nomatch z) ?_⟩
    refine ⟨_, rfl, _, rfl, p, _, _, _, rfl, rfl, SqT.of hp, at1, _, rfl, _, _, rfl, rfl, a, l, j, d + 1, rfl, s1.seq hS, hj, by omega, trivial, fun v2 H2 s2 hv2 => ?_⟩
    rw [← hrest] at hv2
    cases e2 : Hs03.read g rest with
    | none =>
      rw [e2] at hv2
      simp only [Option.bind_some, e2, Option.map_none] at q
      obtain rfl : v2 = .non := hv2
      refine ⟨_, rfl, _, rfl, ifT rfl ?_⟩
      exact q _ _ (s1.trans s2) rfl
    | some z2 =>
      obtain ⟨t2, rest2⟩ := z2
      rw [e2] at hv2
      simp only [Option.bind_some, e2, Option.map_some] at q
      obtain ⟨p2, u2, j2, rfl, hp2, ht2, hj2, hrest2⟩ := hv2
      refine ⟨_, rfl, _, rfl, ifF (fun z => nomatch z) ?_⟩
      refine ⟨_, rfl, _, rfl, a, _, _, _, rfl, rfl, (s1.trans s2).seq hS, nv_at rfl h1, _, rfl, p, _, _, _, rfl, rfl, SqT.of (s2 _ _ hp), at0, _, rfl, p2, _, _, _, rfl, rfl, SqT.of hp2, at0, sz, fun p3 hp3 => ?_⟩
      have s3 := same_new hp3 (.tup [.int n, u, u2])
      refine ⟨_, rfl, p2, _, _, _, rfl, rfl, SqT.of (s3 _ _ hp2), at1, sz, fun p4 hp4 => ?_⟩
      have s4 := s3.trans (same_new hp4 (.tup [.ref p3, .int j2]))
      exact q _ _ ((s1.trans s2).trans s4) ⟨p4, .ref p3, j2, rfl, upd_same, begun_mk2 hn1 hn2 (same_new hp4 _ _ _ upd_same) (ht.same (s2.trans s4)) (ht2.same s4), hj2, hrest2⟩
theorem sc_rat : FnScope ["numbers", "at", "depth", "sort"] ["numbers", "at", "depth"] (defScope s_read_at) := ⟨rfl, rfl, rfl, by decide +kernel, rfl, by decide +kernel, by decide +kernel⟩
theorem ok_read_at0 {k : Nat} (D : DefAt K mg "read_at" s_read_at ["numbers", "at", "depth"]) (T : Cs mg) : Cal P w K mg base (k + 1) "read_at" ["numbers", "at", "depth"] (spRd K 0 fun _ _ => True) := by
  obtain ⟨f, fd, F, b, m⟩ := D
  refine ⟨f, fd, F.ok sc_rat (fun vs H Q E h => ?_) (fun cdv A outer s H vs Q E hr h => ?_), b, F.kp, m⟩
  · obtain ⟨a, l, i, d, rfl, _⟩ := h
    rfl
  obtain ⟨a, l, i, d, rfl, hS, hi, hg, _, q⟩ := h
  refine ⟨_, pss_cons (ps_if (pw_or (pt_cmp (pc_gt (pv 2) (pg_ci T.deepest))) (pw_or1 (pt_cmp (pc_ge (pv 1) (pe_len T.len (pv 0)))))).pt (pss_one (ps_ret pe_non)) pss_nil) pss_never, ?_⟩
  refine ⟨_, rfl, _, _, rfl, rfl, _, rfl, ifT (by omega) (iteT ?_)⟩
  exact q _ _ (Same.refl H) rfl
theorem ok_read_at1 {k g : Nat} (D : DefAt K mg "read_at" s_read_at ["numbers", "at", "depth"]) (T : Cs mg) (RC : Cal P w K mg base 1 "read_counted" ["numbers", "at"] (spRC K))
    (RA : Cal P w K mg base (k + 1) "read_again" ["numbers", "at", "depth"] (spRd K (g + 1) fun i l => ∃ r, l.drop i = 4 :: r))
    (R2 : Cal P w K mg base (k + 1) "read_two" ["numbers", "at", "depth"] (spRd K (g + 1) fun i l => ∃ n r, l.drop i = n :: r ∧ 5 ≤ n ∧ n ≤ 8)) :
    Cal P w K mg base (k + 2) "read_at" ["numbers", "at", "depth"] (spRd K (g + 1) fun _ _ => True) := by
  obtain ⟨f, fd, F, b, m⟩ := D
  refine ⟨f, fd, F.ok sc_rat (fun vs H Q E h => ?_) (fun cdv A outer s H vs Q E hr h => ?_), b, F.kp, m⟩
  · obtain ⟨a, l, i, d, rfl, _⟩ := h
    rfl
  obtain ⟨a, l, i, d, rfl, hS, hi, hg, _, q⟩ := h
  refine ⟨_, pss_cons (ps_if (pw_or (pt_cmp (pc_gt (pv 2) (pg_ci T.deepest))) (pw_or1 (pt_cmp (pc_ge (pv 1) (pe_len T.len (pv 0)))))).pt (pss_one (ps_ret pe_non)) pss_nil)
    (pss_cons (ps_set (i := 3) sc_rat.nd rfl (Or.inl rfl) (pe_ix ix_list (pv 0) (pv 1) (fun _ _ => rfl)))
    (pss_cons (ps_if (pw_or (pt_cmp (pc_eqI (pv 3) (pg_ci T.nth))) (pw_or1 (pt_cmp (pc_eqI (pv 3) (pg_ci T.delay))))).pt (pss_one (ps_ret (pe_cal RC (hr.mono (show 1 ≤ k + 1 by omega)) (pa_cons (pv 0) (pa_cons (pv 1) pa_nil))))) pss_nil)
    (pss_cons (ps_if (pw_or (pt_cmp (pc_eqI (pv 3) (pg_ci T.atMark))) (pw_or1 (pt_cmp (pc_eqI (pv 3) (pg_ci T.never))))).pt (pss_one (ps_ret (pe_tup (pa_cons (pe_tup (pa_cons (pv 3) pa_nil)) (pa_cons (pe_op op_add (pv 1) pe_int) pa_nil))))) pss_nil)
    (pss_cons (ps_if (pt_cmp (pc_eqI (pv 3) (pg_ci T.again))) (pss_one (ps_ret (pe_cal RA hr (pa_cons (pv 0) (pa_cons (pv 1) (pa_cons (pv 2) pa_nil)))))) pss_nil)
    (pss_cons (ps_if (pt_cmp (pc_le (pv 3) (pg_ci T.until_))) (pss_one (ps_ret (pe_cal R2 hr (pa_cons (pv 0) (pa_cons (pv 1) (pa_cons (pv 2) pa_nil)))))) pss_nil)
    (pss_one (ps_ret pe_non))))))), ?_⟩
  have hl := nv_len l
  refine ⟨_, rfl, _, _, rfl, rfl, _, rfl, or2 (c2 := ((nv l).length : Int) ≤ (i : Int)) (fun z => ⟨_, rfl, _, rfl, a, _, rfl, .inl hS, _, _, rfl, rfl, _, rfl, z⟩) (if2 (fun c => ?_) (fun c => ?_))⟩
  · refine q _ _ (Same.refl H) ?_
    rw [hl] at c
    rw [List.drop_eq_nil_of_le (show l.length ≤ i by omega)]
    rfl
  rw [hl] at c
  have hlt : i < l.length := by omega
  obtain ⟨n, r, hd⟩ : ∃ n r, l.drop i = n :: r := ⟨_, _, List.drop_eq_getElem_cons hlt⟩
  obtain ⟨h1, h2, h3⟩ := drop_at hd
  refine ⟨_, rfl, _, rfl, a, _, _, _, rfl, rfl, hS, nv_at rfl h1, ?_⟩
  refine ⟨_, rfl, _, _, rfl, rfl, _, rfl, or2 (c2 := (n : Int) = 1) (fun z => ⟨_, rfl, _, _, rfl, rfl, _, rfl, z⟩) (if2 (fun c1 => ?_) (fun c1 => ?_))⟩
  · refine ⟨_, rfl, _, rfl, a, l, i, n, r, rfl, hS, hd, by omega, fun v H' s' z => q v H' s' ?_⟩
    rw [hd, readC_eq g (by omega), ← hd]
    exact z
  refine ⟨_, rfl, _, _, rfl, rfl, _, rfl, or2 (c2 := (n : Int) = 3) (fun z => ⟨_, rfl, _, _, rfl, rfl, _, rfl, z⟩) (if2 (fun c2 => ?_) (fun c2 => ?_))⟩
  · refine ⟨_, rfl, sz, fun p hp => ⟨_, rfl, _, _, rfl, rfl, sz, fun p2 hp2 => ?_⟩⟩
    refine q _ _ ((same_new hp _).trans (same_new hp2 _)) ?_
    have : n = 2 ∨ n = 3 := by omega
    rcases this with rfl | rfl
    · rw [hd]
      exact ⟨p2, .ref p, i + 1, rfl, upd_same, .mark (same_new hp2 _ _ _ upd_same), by omega, h2.symm⟩
    · rw [hd]
      exact ⟨p2, .ref p, i + 1, rfl, upd_same, .never (same_new hp2 _ _ _ upd_same), by omega, h2.symm⟩
  refine ⟨_, rfl, _, _, rfl, rfl, _, rfl, if2 (fun c3 => ?_) (fun c3 => ?_)⟩
  · obtain rfl : n = 4 := by omega
    exact ⟨_, rfl, _, rfl, _, rfl, a, l, i, d, rfl, hS, hi, hg, ⟨r, hd⟩, q⟩
  refine ⟨_, rfl, _, _, rfl, rfl, _, rfl, if2 (fun c4 => ?_) (fun c4 => ?_)⟩
  · exact ⟨_, rfl, _, rfl, _, rfl, a, l, i, d, rfl, hS, hi, hg, ⟨n, r, hd, by omega, by omega⟩, q⟩
  · refine q _ _ (Same.refl H) ?_
    rw [hd, read_big g (by omega)]
    rfl
/-- the defs of trigger.py that read -/
structure ReadDefs (K : PySem.W.Frag) (mg : Str → Option Value) : Prop where
  rt : DefAt K mg "read_trigger" s_read_trigger ["numbers"]
  ra : DefAt K mg "read_at" s_read_at ["numbers", "at", "depth"]
  rc : DefAt K mg "read_counted" s_read_counted ["numbers", "at"]
  rg : DefAt K mg "read_again" s_read_again ["numbers", "at", "depth"]
  r2 : DefAt K mg "read_two" s_read_two ["numbers", "at", "depth"]
theorem ok_read_at (D : ReadDefs K mg) (T : Cs mg) : ∀ g : Nat, Cal P w K mg base (2 * g + 1) "read_at" ["numbers", "at", "depth"] (spRd K g fun _ _ => True)
  | 0 => ok_read_at0 D.ra T
  | g + 1 => by
    have ih := ok_read_at D T g
    exact ok_read_at1 (k := 2 * g + 1) D.ra T (ok_read_counted D.rc T) (ok_read_again D.rg T ih) (ok_read_two D.r2 ih)
/-- what read_trigger gives -/
def TgAt (H : Hp) (v : V) : Option T → Prop
  | none => v = .non
  | some t => TrAt H v (begun t) ∧ depT t ≤ 10
def spRT (K : PySem.W.Frag) : Sp := fun vs H Q _ => ∃ (a : Addr) (l : List Nat), vs = [.ref a] ∧ SqL K H a (nv l) ∧ ∀ v H', Same H H' → TgAt H' v (trigger? l) → Q v H'
theorem sc_rt : FnScope ["numbers", "found"] ["numbers"] (defScope s_read_trigger) := ⟨rfl, rfl, rfl, by decide +kernel, rfl, by decide +kernel, by decide +kernel⟩
theorem ok_read_trigger (D : ReadDefs K mg) (T : Cs mg) : Cal P w K mg base 22 "read_trigger" ["numbers"] (spRT K) := by
  have C : Cal P w K mg base 21 "read_at" ["numbers", "at", "depth"] (spRd K 10 fun _ _ => True) := ok_read_at D T 10
  obtain ⟨f, fd, F, b, m⟩ := D.rt
  refine ⟨f, fd, F.ok sc_rt (fun vs H Q E h => ?_) (fun cdv A outer s H vs Q E hr h => ?_), b, F.kp, m⟩
  · obtain ⟨a, l, rfl, _⟩ := h
    rfl
  obtain ⟨a, l, rfl, hS, q⟩ := h
  refine ⟨_, pss_cons (ps_if (pt_cmp (pc_gt (pe_len T.len (pv 0)) (pg_ci T.mostN))) (pss_one (ps_ret pe_non)) pss_nil)
    (pss_cons (ps_set (i := 1) sc_rt.nd rfl (Or.inl rfl) (pe_cal C hr (pa_cons (pv 0) (pa_cons pe_int (pa_cons pe_int pa_nil)))))
    (pss_cons (ps_if (pw_or (pt_cmp (pc_isN (pv 1))) (pw_or1 (pt_cmp (pc_neI (pe_ix ix_tup (pv 1) pe_int (fun _ _ => rfl)) (pe_len T.len (pv 0)))))).pt (pss_one (ps_ret pe_non)) pss_nil)
    (pss_one (ps_ret (pe_ix ix_tup (pv 1) pe_int (fun _ _ => rfl)))))), ?_⟩
  have hl := nv_len l
  unfold trigger? at q
  refine ⟨_, rfl, a, _, rfl, .inl hS, _, _, rfl, rfl, _, rfl, if2 (fun c => ?_) (fun c => ?_)⟩
  · rw [hl] at c
    rw [if_pos (show 60 < l.length by omega)] at q
    exact q _ _ (Same.refl H) rfl
  rw [hl] at c
  rw [if_neg (show ¬ 60 < l.length by omega)] at q
  refine ⟨_, rfl, a, l, 0, 1, rfl, hS, by omega, by omega, trivial, fun v H1 s1 hv => ?_⟩
  rw [List.drop_zero] at hv
  cases e : Hs03.read 10 l with
  | none =>
    rw [e] at hv q
    obtain rfl : v = .non := hv
    refine ⟨_, rfl, _, rfl, ifT rfl (iteT ?_)⟩
    exact q _ _ s1 rfl
  | some z =>
    obtain ⟨t, rest⟩ := z
    rw [e] at hv q
    obtain ⟨p, u, j, rfl, hp, ht, hj, hrest⟩ := hv
    refine ⟨_, rfl, _, rfl, ifF (fun z => nomatch z) ?_⟩
    refine ⟨_, rfl, p, _, _, _, rfl, rfl, SqT.of hp, at1, _, rfl, a, _, rfl, .inl (s1.seq hS), _, _, rfl, rfl, _, rfl, ?_⟩
    refine ifN (fun ej => ?_) (fun ej => ?_)
    · rw [hl] at ej
      cases er : rest with
      | nil =>
        rw [er] at hrest
        have := List.drop_eq_nil_iff.mp hrest.symm
        omega
      | cons y ys =>
        rw [er] at q
        exact q _ _ s1 rfl
    · rw [hl] at ej
      refine ⟨_, rfl, p, _, _, _, rfl, rfl, SqT.of hp, at0, ?_⟩
      have er : rest = [] := by rw [hrest]; exact List.drop_eq_nil_of_le (by omega)
      subst er
      exact q _ _ s1 ⟨ht, dep_read 10 l t [] e⟩
end
end M

end
section
set_option Elab.async false
set_option linter.all false
set_option maxRecDepth 100000
set_option maxHeartbeats 2000000
namespace M
open PySem PySem.Spec PyProof.Rows L2 PySem.W PySem.Calls
/-! ### sorted(d): the keys of a dict whose keys are ints -/
def rSortedD : List V → Hp → VK → Prop := fun vs H Q => ∃ (d : Addr) (kvs : List (L2.Key × V)) (ks : List Int), vs = [V.ref d] ∧ H d = some (.dK kvs) ∧ kvs.map (·.1) = ks.map Sum.inl ∧ ks.length < 64 ∧
  ∀ (ns : List Int) (p : Addr), ns.Perm ks → ns.Pairwise (· ≤ ·) → H p = none → Q (.ref p) (upd H p (.lst (ns.map V.int)))
theorem kv_at : ∀ {kvs : List (L2.Key × V)} {vs : List (L2.Key × Value)} {ks : List Int}, KV kvs vs → kvs.map (·.1) = ks.map Sum.inl → vs.map (·.1) = ks.map Sum.inl
  | _, _, ks, .nil, e => e
  | _, _, ks, .cons (a := p) (b := q) r t, e => by
    cases ks with
    | nil => simp at e
    | cons k ks =>
      simp only [List.map_cons, List.cons.injEq] at e ⊢
      exact ⟨r.1 ▸ e.1, kv_at t e.2⟩
theorem ints_of : ∀ {us : List Value} {ks : List Int}, us.length = ks.length → (∀ (j : Nat) (v : Value), us[j]? = some v → ∃ k t, ks[j]? = some k ∧ v = Value.int k t) → IntsAre us ks
  | [], [], _, _ => .nil
  | [], _ :: _, h, _ => by simp at h
  | _ :: _, [], h, _ => by simp at h
  | u :: us, k :: ks, hl, h => by
    obtain ⟨k', t, e1, e2⟩ := h 0 u rfl
    obtain rfl : k = k' := Option.some.inj e1
    subst e2
    exact .cons k t (ints_of (by simpa using hl) fun j v e => h (j + 1) v (by simpa using e))
theorem cr_sortedD {X : Cx} (hc : X.calm = true) : CallR X (.builtin "sorted") rSortedD := by
  intro pins s σ H vs us Q I r h
  obtain ⟨d, kvs, ks, rfl, hd, hk, h64, q⟩ := h
  obtain ⟨_, lo, vs, kv, hD⟩ := I.hok d _ hd
  obtain ⟨ep, hat⟩ := hD.dictAt
  rw [Vals.ref1 r]
  have hkv := kv_at kv hk
  have hlen : vs.length = ks.length := by
    have e := congrArg List.length hkv
    simpa using e
  refine call_function_entry kind_sorted plain_sorted entry_sorted (args_sorted1 _) ?_
  unfold Builtin.«sorted»
  refine wpAny_bind (m := checkCount "sorted" 1 1 _) (wpAny_pure ?_)
  refine wpAny_bind (kdu_collect (A := X.A.in1) (kdl_dict (knd := mixKind X.prog X.w) (kvs := vs) (ep := ep) lo) (I.ok.hd hc) hat (by rw [hlen]; exact small64 h64) fun h' tk acc hk' hacc => ?_)
  have hl : acc.toList.length = ks.length := by rw [Array.length_toList, hacc.1, hlen]
  have hI : IntsAre acc.toList ks := ints_of hl fun j v e => by
    obtain ⟨k, x, e1, e2⟩ := hacc.2 j v (by rw [← Array.getElem?_toList]; exact e)
    have e3 : (vs.map (·.1))[j]? = some k := by rw [List.getElem?_map, e1]; rfl
    rw [hkv, List.getElem?_map] at e3
    cases e4 : ks[j]? with
    | none => rw [e4] at e3; cases e3
    | some z =>
      rw [e4] at e3
      obtain rfl : Sum.inl z = k := Option.some.inj e3
      rcases keyIs_shape (show keyIs (Sum.inl z) v = true from e2) with ⟨i, t, e5, e6⟩ | ⟨x, t, e5, _⟩
      · cases e5
        exact ⟨z, t, rfl, e6⟩
      · cases e5
  refine wpAny_bind (wpAny_newList ?_ (by rw [hl]; exact small64 h64))
  have hoL : (h'.push { cls := .type "list", data := .seq acc.toList.toArray }).get? h'.objs.size = some (seqObj "list" acc.toList.toArray 0) := Heap.get?_push_size _ rfl
  refine wpAny_bind (wpAny_holding (wpAny_call_entry slot_list_sort ⟨_, hoL, rfl⟩ entry_list_sort (list_sort_tree hoL hI (by rw [hl]; exact h64) fun out ns' a1 a2 a3 => ⟨_, rfl, ?_⟩) (args_list_sort _)))
  refine wpAny_pure ⟨_, rfl, ?_⟩
  obtain ⟨ep', he'⟩ := PyProof.Rows.sortedHeap_at (vs := acc.toList) (out := out) hoL
  have hz : (ns'.map V.int).length ≤ sizeLine := by rw [List.length_map, a2.length_eq]; exact small64 h64
  have I1 : Inv X pins σ H { s with heap := h', toks := tk } := I.kept hk'
  have hold : ∀ b u, h'.get? b = some u → (sortedHeap (h'.push { cls := .type "list", data := .seq acc.toList.toArray }) h'.objs.size acc.toList out).get? b = some u := fun b u e1 => by
    have lt := Heap.lt_size e1
    rw [PyProof.Rows.sortedHeap_old (Nat.ne_of_lt lt) (by rw [size_push']; exact Nat.lt_succ_of_lt lt)]
    exact Heap.get?_push_of_some _ e1
  exact ⟨.ref _, upd H h'.objs.size (.lst (ns'.map V.int)), I1.laid (t' := tk) hold (Nat.le_refl _) ⟨hz, out.toList, ep', vals_of_ints a1, he'⟩, rfl, q ns' _ a2 a3 (I1.hok.fresh (Nat.le_refl _))⟩
end M

end
section
set_option Elab.async false
set_option linter.all false
set_option maxRecDepth 100000
set_option maxHeartbeats 2000000
namespace M
open PySem PySem.Spec PyProof.Rows L2
open Hs03 (Trig T begun hears)
/-! ### methods -/
def MCal (P : Program) (w : World) (K : PySem.W.Frag) (mg : Str → Option Value) (base : Heap) (k : Nat) (C : Addr) (m : Str) (ps : List Str) (sp : Sp) : Prop :=
  ∃ f fd, FnOk P w K mg base CX0 k f fd ps sp ∧ Binds K fd ps [] ∧ Meth K C m f
def MDef (K : PySem.W.Frag) (C : Addr) (m qual : Str) (st : Stmt) (ps : List Str) : Prop := ∃ f fd, Fun K m qual st f fd ∧ Binds K fd ps [] ∧ Meth K C m f
theorem MCal.mono {P : Program} {w : World} {K : PySem.W.Frag} {mg : Str → Option Value} {base : Heap} {j k : Nat} {C : Addr} {x : Str} {ps : List Str} {sp : Sp} (Z : MCal P w K mg base j C x ps sp) (h : j ≤ k) : MCal P w K mg base k C x ps sp := by
  obtain ⟨f, fd, F, b, m⟩ := Z
  exact ⟨f, fd, F.mono h, b, m⟩
section
variable {X : Cx} {m : Str} {apos pos : Pos} {o e : Expr} {es : List Expr} {ta : TE} {t : TA} {k : Nat} {C : Addr} {ps : List Str} {sp : Sp}
theorem pe_mcal {pl : Sem Bool} (he : PE X o ta) (c : Cls X.K C) (Z : MCal X.prog X.w X.K X.mg X.base k C m ps sp) (hr : Room k X.A) (ha : PA X (e :: es) t)
    (hst : starEach (e :: es) X.env = (false, eval e X.env) :: starEach es X.env := by rfl) (hpl : (backTo pos (starEach es X.env)).any (·.1) = false := by rfl)
    (ht : eval (.Call (.Attribute o m apos) (e :: es) [] pos) X.env = (do
      let ov ← eval o X.env
      standAt apos.atName
      let (f, first) ← holding [ov] (getMethod ov m pl)
      callWith pos f first (backTo pos (starEach (e :: es) X.env)) (backToKw pos (keywordEach [] X.env))) := by rfl) :
    PE X (.Call (.Attribute o m apos) (e :: es) [] pos) (tMeth C m sp [] E0 ta t) := by
  obtain ⟨f, fd, F, b, mm⟩ := Z
  exact pe_meth he c mm F hr b .nil pass0 ha hst hpl ht
theorem pe_mcal0 {pl : Sem Bool} (he : PE X o ta) (c : Cls X.K C) (Z : MCal X.prog X.w X.K X.mg X.base k C m ps sp) (hr : Room k X.A)
    (ht : eval (.Call (.Attribute o m apos) [] [] pos) X.env = (do
      let ov ← eval o X.env
      standAt apos.atName
      let (f, first) ← holding [ov] (getMethod ov m pl)
      callWith pos f first (backTo pos (starEach [] X.env)) (backToKw pos (keywordEach [] X.env))) := by rfl) :
    PE X (.Call (.Attribute o m apos) [] [] pos) (tMeth C m sp [] E0 ta tNil) := by
  obtain ⟨f, fd, F, b, mm⟩ := Z
  exact pe_meth0 he c mm F hr b .nil pass0 ht
end
theorem l9 {fs : List (Str × V)} (n : Nat) (e : fs.length = n) (h : n < 1000 := by decide) : fs.length < 1000 := by rw [e]; exact h
/-! ### a pile -/
def pf (k : Int) (v : V) (nc ns ac as_ pn : Int) (q : Addr) : List (Str × V) :=
  [("key", .int k), ("trigger", v), ("new_count", .int nc), ("new_sum", .int ns), ("all_count", .int ac), ("all_sum", .int as_), ("panes", .int pn), ("last_pane", .ref q)]
def lastL : Option Hs03.Pane → List V
  | none => []
  | some p => nv (Hs03.paneTold p)
def chg (l : List Hs03.Change) : List V := nv (l.flatMap fun x => Hs03.flag x.1 :: Hs03.paneTold x.2)
theorem chg_len : ∀ l : List Hs03.Change, (chg l).length = 6 * l.length
  | [] => rfl
  | x :: r => by
    have ih := chg_len r
    simp only [chg, nv_len, List.flatMap_cons, List.length_append, List.length_cons, Hs03.paneTold, List.length_nil] at ih ⊢
    omega
theorem chg_append (a b : List Hs03.Change) : chg (a ++ b) = chg a ++ chg b := by
  simp only [chg, nv, List.flatMap_append, List.map_append]
/-- the pile of a key stands at p; av: lists that others may change -/
structure PileAt (C : Addr) (av : Addr → Prop) (H : Hp) (p : Addr) (x : Hs03.Key) : Prop where
  ex : ∃ dx v q, H p = some (.ins C dx (pf x.key v x.newCount x.newSum x.allCount x.allSum x.panes q)) ∧ LfAt H v x.trig ∧ H q = some (.lst (lastL x.last)) ∧ ¬ av q
  dep : ∀ t, x.trig = some t → dep t ≤ 10
  lst : x.panes = 0 ↔ x.last = none
theorem PileAt.keep {C : Addr} {av av' : Addr → Prop} {H H' : Hp} {p : Addr} {x : Hs03.Key} (P : PileAt C av H p x) (k : ∀ b o, H b = some o → (∀ xs, o = .lst xs → ¬ av b) → H' b = some o) (ka : ∀ b o, H b = some o → av' b → av b) : PileAt C av' H' p x := by
  obtain ⟨⟨dx, v, q, h1, h2, h3, h4⟩, hd, hl⟩ := P
  exact ⟨⟨dx, v, q, k _ _ h1 (fun xs e => nomatch e), h2.keep (fun a xs e => k _ _ e (fun ys z => nomatch z)), k _ _ h3 (fun xs e => h4), fun z => h4 (ka q _ h3 z)⟩, hd, hl⟩
theorem PileAt.same {C : Addr} {av : Addr → Prop} {H H' : Hp} {p : Addr} {x : Hs03.Key} (P : PileAt C av H p x) (s : Same H H') : PileAt C av H' p x := P.keep (fun b o e _ => s b o e) (fun _ _ _ z => z)
/-- all that was tracked is as it was, but p -/
def But (p : Addr) (H H' : Hp) : Prop := ∀ b o, H b = some o → b ≠ p → H' b = some o
theorem But.of {p : Addr} {H H' : Hp} (s : Same H H') : But p H H' := fun b o e _ => s b o e
theorem But.trans {p : Addr} {H H1 H2 : Hp} (a : But p H H1) (b : But p H1 H2) : But p H H2 := fun c o e n => b c o (a c o e n) n
theorem But.upd {p : Addr} {H : Hp} {o : HO} : But p H (upd H p o) := fun b u e n => by rw [upd_ne n]; exact e
theorem But.free {p : Addr} {H H' : Hp} (a : But p H H') {l : Addr} (hl : H' l = none) (hp : l ≠ p) : H l = none := by
  cases q : H l with
  | none => rfl
  | some o =>
    rw [a l o q hp] at hl
    cases hl
structure PTx (K : PySem.W.Frag) (mg : Str → Option Value) (C : Addr) : Prop where
  cl : Cls K C
  nkey : NoAttr K C "key"
  ntrig : NoAttr K C "trigger"
  nnc : NoAttr K C "new_count"
  nns : NoAttr K C "new_sum"
  nac : NoAttr K C "all_count"
  nas : NoAttr K C "all_sum"
  npn : NoAttr K C "panes"
  nlp : NoAttr K C "last_pane"
  newOnes : CI mg "NEW_ONES" 0
  allBack : CI mg "ALL_WITH_TAKING_BACK" 2
  takenBack : CI mg "TAKEN_BACK" 0
  told : CI mg "TOLD" 1
/-! ### promises -/
def spPInit (C : Addr) : Sp := fun vs H Q _ => ∃ (p dx : Addr) (k : Int) (v : V), vs = [.ref p, .int k, v] ∧ H p = some (.ins C dx []) ∧ ∀ (H' : Hp) (q : Addr), But p H H' → H q = none → H' p = some (.ins C dx (pf k v 0 0 0 0 0 q)) → H' q = some (.lst []) → Q .non H'
def addEv (x : Hs03.Key) (v : Nat) : Hs03.Key := { x with newCount := x.newCount + 1, newSum := x.newSum + v, allCount := x.allCount + 1, allSum := x.allSum + v }
def spTake (C : Addr) : Sp := fun vs H Q _ => ∃ (p : Addr) (v : Nat) (x : Hs03.Key) (av : Addr → Prop), vs = [.ref p, .int v] ∧ PileAt C av H p x ∧ ∀ H' : Hp, But p H H' → PileAt C av H' p (addEv x v) → Q .non H'
def spMP (C : Addr) : Sp := fun vs H Q _ => ∃ (p dx : Addr) (k nc ns ac as_ pn md wn : Int) (v : V) (q : Addr), vs = [.ref p, .int md, .int wn] ∧ H p = some (.ins C dx (pf k v nc ns ac as_ pn q)) ∧
  ∀ r : Addr, H r = none → Q (.ref r) (upd H r (.lst [.int k, .int pn, .int wn, .int (if md = 0 then nc else ac), .int (if md = 0 then ns else as_)]))
def whenN (s : Hs03.St) (byMark : Bool) : Nat := if byMark = true then 1 else if s.passed = true then 2 else 0
def spTell (C : Addr) : Sp := fun vs H Q _ => ∃ (p : Addr) (s : Hs03.St) (bm : Bool) (x : Hs03.Key) (av : Addr → Prop), vs = [.ref p, .int s.mode, .int (Hs03.flag s.empties), .int (whenN s bm)] ∧ PileAt C av H p x ∧ (∀ b, av b → ∃ o, H b = some o) ∧
  ∀ (H' : Hp) (r : Addr), But p H H' → H r = none → H' r = some (.lst (chg (Hs03.pane s bm x).2)) → PileAt C (fun b => b = r ∨ av b) H' p (Hs03.pane s bm x).1 → Q (.ref r) H'
section
variable {P : Program} {w : World} {K : PySem.W.Frag} {mg : Str → Option Value} {base : Heap} {C : Addr}
theorem sc_pi : FnScope ["self", "key", "trigger"] ["self", "key", "trigger"] (defScope s_Pile_init) := ⟨rfl, rfl, rfl, by decide +kernel, rfl, by decide +kernel, by decide +kernel⟩
theorem ok_pinit {f : Addr} {fd : FuncData} (F : Fun K "__init__" "Pile.__init__" s_Pile_init f fd) (T : PTx K mg C) : FnOk P w K mg base CX0 1 f fd ["self", "key", "trigger"] (spPInit C) := by
  refine F.ok sc_pi (fun vs H Q E h => ?_) (fun cdv A outer s H vs Q E hr h => ?_)
  · obtain ⟨p, dx, k, v, rfl, _⟩ := h
    rfl
  obtain ⟨p, dx, k, v, rfl, hp, q⟩ := h
  refine ⟨_, pss_cons (ps_fld (pv 0) (pv 1) rfl) (pss_cons (ps_fld (pv 0) (pv 2) rfl) (pss_cons (ps_fld (pv 0) pe_int rfl) (pss_cons (ps_fld (pv 0) pe_int rfl) (pss_cons (ps_fld (pv 0) pe_int rfl) (pss_cons (ps_fld (pv 0) pe_int rfl)
    (pss_cons (ps_fld (pv 0) pe_int rfl) (pss_one (ps_fld (pv 0) (pe_lst pa_nil) rfl)))))))), ?_⟩
  refine ⟨_, rfl, _, rfl, p, C, dx, _, rfl, hp, T.cl, T.nkey, l9 0 rfl, ?_⟩
  refine ⟨_, rfl, _, rfl, p, C, dx, _, rfl, upd_same, T.cl, T.ntrig, l9 1 rfl, ?_⟩
  refine ⟨_, rfl, p, C, dx, _, rfl, upd_same, T.cl, T.nnc, l9 2 rfl, ?_⟩
  refine ⟨_, rfl, p, C, dx, _, rfl, upd_same, T.cl, T.nns, l9 3 rfl, ?_⟩
  refine ⟨_, rfl, p, C, dx, _, rfl, upd_same, T.cl, T.nac, l9 4 rfl, ?_⟩
  refine ⟨_, rfl, p, C, dx, _, rfl, upd_same, T.cl, T.nas, l9 5 rfl, ?_⟩
  refine ⟨_, rfl, p, C, dx, _, rfl, upd_same, T.cl, T.npn, l9 6 rfl, ?_⟩
  refine ⟨sz, fun l hl => ?_⟩
  have s1 := same_new hl (.lst [])
  refine ⟨_, rfl, p, C, dx, _, rfl, s1 _ _ upd_same, T.cl, T.nlp, l9 7 rfl, ?_⟩
  have hlp : l ≠ p := fun z => by
    rw [z, upd_same] at hl
    cases hl
  have hb : But p H _ := (But.upd.trans (But.upd.trans (But.upd.trans (But.upd.trans (But.upd.trans (But.upd.trans (But.upd.trans (But.of s1))))))))
  refine q _ l (hb.trans But.upd) ?_ upd_same ?_
  · simp only [upd_upd] at hl
    rw [upd_ne hlp] at hl
    exact hl
  · rw [upd_ne hlp]
    exact upd_same
theorem sc_pt : FnScope ["self", "value"] ["self", "value"] (defScope s_Pile_take) := ⟨rfl, rfl, rfl, by decide +kernel, rfl, by decide +kernel, by decide +kernel⟩
theorem ok_take (D : MDef K C "take" "Pile.take" s_Pile_take ["self", "value"]) (T : PTx K mg C) : MCal P w K mg base 1 C "take" ["self", "value"] (spTake C) := by
  obtain ⟨f, fd, F, b, m⟩ := D
  refine ⟨f, fd, F.ok sc_pt (fun vs H Q E h => ?_) (fun cdv A outer s H vs Q E hr h => ?_), b, m⟩
  · obtain ⟨p, v, x, av, rfl, _⟩ := h
    rfl
  obtain ⟨p, v, x, av, rfl, ⟨⟨dx, tv, q, h1, h2, h3, h4⟩, hd, hl⟩, k⟩ := h
  refine ⟨_, pss_cons (ps_fldaug (pv 0) pe_int in_add) (pss_cons (ps_fldaug (pv 0) (pv 1) in_add) (pss_cons (ps_fldaug (pv 0) pe_int in_add) (pss_one (ps_fldaug (pv 0) (pv 1) in_add)))), ?_⟩
  refine ⟨_, rfl, p, C, dx, _, _, rfl, h1, T.cl, T.nnc, rfl, _, _, rfl, rfl, dx, _, h1, l9 8 rfl, ?_⟩
  refine ⟨_, rfl, p, C, dx, _, _, rfl, upd_same, T.cl, T.nns, rfl, _, rfl, _, _, rfl, rfl, dx, _, upd_same, l9 8 rfl, ?_⟩
  refine ⟨_, rfl, p, C, dx, _, _, rfl, upd_same, T.cl, T.nac, rfl, _, _, rfl, rfl, dx, _, upd_same, l9 8 rfl, ?_⟩
  refine ⟨_, rfl, p, C, dx, _, _, rfl, upd_same, T.cl, T.nas, rfl, _, rfl, _, _, rfl, rfl, dx, _, upd_same, l9 8 rfl, ?_⟩
  have hqp : q ≠ p := ne_of h3 h1 (fun z => nomatch z)
  refine k _ (But.upd.trans (But.upd.trans (But.upd.trans But.upd))) ?_
  simp only [upd_upd]
  refine ⟨⟨dx, tv, q, upd_same, ?_, by rw [upd_ne hqp]; exact h3, h4⟩, hd, hl⟩
  exact h2.keep fun a xs e => by rw [upd_ne (ne_of e h1 (fun z => nomatch z))]; exact e
theorem sc_mp : FnScope ["self", "mode", "when"] ["self", "mode", "when"] (defScope s_Pile_make_pane) := ⟨rfl, rfl, rfl, by decide +kernel, rfl, by decide +kernel, by decide +kernel⟩
theorem ok_make_pane (D : MDef K C "make_pane" "Pile.make_pane" s_Pile_make_pane ["self", "mode", "when"]) (T : PTx K mg C) : MCal P w K mg base 1 C "make_pane" ["self", "mode", "when"] (spMP C) := by
  obtain ⟨f, fd, F, b, m⟩ := D
  refine ⟨f, fd, F.ok sc_mp (fun vs H Q E h => ?_) (fun cdv A outer s H vs Q E hr h => ?_), b, m⟩
  · obtain ⟨p, dx, k, nc, ns, ac, as_, pn, md, wn, v, q, rfl, _⟩ := h
    rfl
  obtain ⟨p, dx, k, nc, ns, ac, as_, pn, md, wn, v, q, rfl, hp, h⟩ := h
  refine ⟨_, pss_cons (ps_if (pt_cmp (pc_eqI (pv 1) (pg_ci T.newOnes))) (pss_one (ps_ret (pe_lst (pa_cons (pe_fld (pv 0) rfl) (pa_cons (pe_fld (pv 0) rfl) (pa_cons (pv 2) (pa_cons (pe_fld (pv 0) rfl) (pa_cons (pe_fld (pv 0) rfl) pa_nil)))))))) pss_nil)
    (pss_one (ps_ret (pe_lst (pa_cons (pe_fld (pv 0) rfl) (pa_cons (pe_fld (pv 0) rfl) (pa_cons (pv 2) (pa_cons (pe_fld (pv 0) rfl) (pa_cons (pe_fld (pv 0) rfl) pa_nil)))))))), ?_⟩
  refine ⟨_, rfl, _, _, rfl, rfl, _, rfl, if2 (fun c => ?_) (fun c => ?_)⟩
  · refine ⟨_, rfl, p, C, dx, _, _, rfl, hp, T.cl, T.nkey, rfl, _, rfl, p, C, dx, _, _, rfl, hp, T.cl, T.npn, rfl, _, rfl, _, rfl, p, C, dx, _, _, rfl, hp, T.cl, T.nnc, rfl, _, rfl, p, C, dx, _, _, rfl, hp, T.cl, T.nns, rfl, sz, fun r hr' => ?_⟩
    have := h r hr'
    rw [if_pos c, if_pos c] at this
    exact this
  · refine ⟨_, rfl, p, C, dx, _, _, rfl, hp, T.cl, T.nkey, rfl, _, rfl, p, C, dx, _, _, rfl, hp, T.cl, T.npn, rfl, _, rfl, _, rfl, p, C, dx, _, _, rfl, hp, T.cl, T.nac, rfl, _, rfl, p, C, dx, _, _, rfl, hp, T.cl, T.nas, rfl, sz, fun r hr' => ?_⟩
    have := h r hr'
    rw [if_neg c, if_neg c] at this
    exact this
end
end M

end
section
set_option Elab.async false
set_option linter.all false
set_option maxRecDepth 100000
set_option maxHeartbeats 2000000
namespace M
open PySem PySem.Spec PyProof.Rows L2
open Hs03 (Trig T begun hears)
theorem flag_eq (b : Bool) : ((Hs03.flag b : Nat) : Int) = 0 ↔ b = false := by cases b <;> decide
section
variable {P : Program} {w : World} {K : PySem.W.Frag} {mg : Str → Option Value} {base : Heap} {C : Addr}
theorem sc_te : FnScope ["self", "mode", "empties", "when", "changes"] ["self", "mode", "empties", "when"] (defScope s_Pile_tell) := ⟨rfl, rfl, rfl, by decide +kernel, rfl, by decide +kernel, by decide +kernel⟩
theorem ok_tell (D : MDef K C "tell" "Pile.tell" s_Pile_tell ["self", "mode", "empties", "when"]) (T : PTx K mg C) (MP : MCal P w K mg base 1 C "make_pane" ["self", "mode", "when"] (spMP C)) :
    MCal P w K mg base 2 C "tell" ["self", "mode", "empties", "when"] (spTell C) := by
  obtain ⟨f, fd, F, b, m⟩ := D
  refine ⟨f, fd, F.ok sc_te (fun vs H Q E h => ?_) (fun cdv A outer s H vs Q E hr h => ?_), b, m⟩
  · obtain ⟨p, s, bm, x, av, rfl, _⟩ := h
    rfl
  obtain ⟨p, st, bm, x, av, rfl, ⟨⟨dx, tv, q, h1, h2, h3, h4⟩, hd, hl⟩, hav, k⟩ := h
  refine ⟨_, pss_cons (ps_if (pw_and (pt_cmp (pc_eqI (pe_fld (pv 0) rfl) pe_int)) (pw_and1 (pt_cmp (pc_eqI (pv 2) pe_int)))).pt (pss_one (ps_ret (pe_lst pa_nil))) pss_nil)
    (pss_cons (ps_set (i := 4) sc_te.nd rfl (Or.inl rfl) (pe_lst pa_nil))
    (pss_cons (ps_if (pw_and (pt_cmp (pc_eqI (pv 1) (pg_ci T.allBack))) (pw_and1 (pt_cmp (pc_gt (pe_fld (pv 0) rfl) pe_int)))).pt
      (pss_one (ps_set (i := 4) sc_te.nd rfl (Or.inl rfl) (pe_op op_cat (pe_lst (pa_cons (pg_ci T.takenBack) pa_nil)) (pe_fld (pv 0) rfl)))) pss_nil)
    (pss_cons (ps_fld (pv 0) (pe_mcal (pv 0) T.cl MP hr (pa_cons (pv 1) (pa_cons (pv 3) pa_nil))) rfl)
    (pss_cons (ps_fldaug (pv 0) pe_int in_add)
    (pss_cons (ps_fld (pv 0) pe_int rfl)
    (pss_cons (ps_fld (pv 0) pe_int rfl)
    (pss_one (ps_ret (pe_op op_cat (pe_op op_cat (pv 4) (pe_lst (pa_cons (pg_ci T.told) pa_nil))) (pe_fld (pv 0) rfl)))))))))), ?_⟩
  have hfl := flag_eq st.empties
  refine ⟨_, rfl, p, C, dx, _, _, rfl, h1, T.cl, T.nnc, rfl, _, _, rfl, rfl, _, rfl, and2 (c2 := ((Hs03.flag st.empties : Nat) : Int) = 0) (fun q => ⟨_, rfl, _, _, rfl, rfl, _, rfl, q⟩) (if2 (fun c => ?_) (fun c => ?_))⟩
  · have e : Hs03.pane st bm x = (x, []) := by
      unfold Hs03.pane
      rw [if_pos ⟨by have := c.1; omega, hfl.mp c.2⟩]
    rw [e] at k
    refine ⟨sz, fun r hr' => ?_⟩
    have s1 := same_new hr' (.lst [])
    refine k _ r (But.of s1) hr' upd_same ⟨⟨dx, tv, q, s1 _ _ h1, h2.same s1, s1 _ _ h3, fun z => ?_⟩, hd, hl⟩
    rcases z with z | z
    · rw [z, hr'] at h3
      cases h3
    · exact h4 z
  have en : ¬ (x.newCount = 0 ∧ st.empties = false) := fun z => c ⟨by have := z.1; omega, hfl.mpr z.2⟩
  have e : Hs03.pane st bm x = ({ x with newCount := 0, newSum := 0, panes := x.panes + 1, last := some ⟨x.key, x.panes, whenN st bm, if st.mode = 0 then x.newCount else x.allCount, if st.mode = 0 then x.newSum else x.allSum⟩ },
      (match x.last with
        | some q => if st.mode = 2 then [(false, q)] else []
        | none => []) ++ [(true, ⟨x.key, x.panes, whenN st bm, if st.mode = 0 then x.newCount else x.allCount, if st.mode = 0 then x.newSum else x.allSum⟩)]) := by
    unfold Hs03.pane
    rw [if_neg en]
    rfl
  rw [e] at k
  refine ⟨sz, fun l0 hl0 => ?_⟩
  have s0 := same_new hl0 (.lst [])
  refine ⟨_, rfl, _, _, rfl, rfl, _, rfl, and2 (c2 := (0 : Int) < (x.panes : Int)) (fun z => ⟨_, rfl, p, C, dx, _, _, rfl, s0 _ _ h1, T.cl, T.npn, rfl, _, _, rfl, rfl, _, rfl, z⟩) (if2 (fun c2 => ?y1) (fun c2 => ?y2))⟩
  case' y1 =>
    obtain ⟨pn, e1⟩ : ∃ pn, x.last = some pn := by
      cases q : x.last with
      | none => rw [hl.mpr q] at c2; omega
      | some y => exact ⟨y, rfl⟩
    have hx : [V.int 0] ++ lastL x.last = chg (match x.last with
        | some q => if st.mode = 2 then [(false, q)] else []
        | none => []) := by
      rw [e1]
      show _ = chg (if st.mode = 2 then [(false, pn)] else [])
      rw [if_pos (show st.mode = 2 by omega)]
      rfl
    have hxl : ([V.int 0] ++ lastL x.last).length ≤ 6 := by
      rw [e1]
      exact Nat.le_refl 6
    refine ⟨sz, fun l1 hl1 => ⟨_, rfl, p, C, dx, _, _, rfl, same_new hl1 _ _ _ (s0 _ _ h1), T.cl, T.nlp, rfl, l1, q, _, _, rfl, rfl, upd_same, same_new hl1 _ _ _ (s0 _ _ h3), sz (by rw [List.length_append] at hxl; omega), fun l hl2 => ?_⟩⟩
    have s1 := (s0.trans (same_new hl1 (.lst [.int 0]))).trans (same_new hl2 (.lst ([.int 0] ++ lastL x.last)))
    have hll := upd_same (H := upd (upd H l0 (.lst [])) l1 (.lst [.int 0])) (a := l) (o := .lst ([.int 0] ++ lastL x.last))
    generalize upd (upd (upd H l0 (.lst [])) l1 (.lst [.int 0])) l (.lst ([.int 0] ++ lastL x.last)) = H1 at s1 hll ⊢
    generalize [V.int 0] ++ lastL x.last = xs at hx hxl hll
  case' y2 =>
    have hx : ([] : List V) = chg (match x.last with
        | some q => if st.mode = 2 then [(false, q)] else []
        | none => []) := by
      cases q : x.last with
      | none => rfl
      | some y =>
        show _ = chg (if st.mode = 2 then _ else _)
        have : ¬ x.panes = 0 := fun z => by rw [hl.mp z] at q; cases q
        rw [if_neg (show ¬ st.mode = 2 by omega)]
        rfl
    have hxl : ([] : List V).length ≤ 6 := Nat.zero_le 6
    have s1 := s0
    have hll := upd_same (H := H) (a := l0) (o := .lst [])
    obtain ⟨l, rfl⟩ : ∃ l, l = l0 := ⟨_, rfl⟩
    generalize upd H l (.lst []) = H1 at s1 hll ⊢
    obtain ⟨xs, hxs⟩ : ∃ xs : List V, xs = [] := ⟨_, rfl⟩
    rw [← hxs] at hx hxl hll
  all_goals
    refine ⟨_, rfl, p, dx, _, rfl, s1 _ _ h1, rfl, _, rfl, _, rfl, p, dx, _, _, _, _, _, _, _, _, _, _, rfl, s1 _ _ h1, fun r hr' => ?_⟩
    have s2 := s1.trans (same_new hr' (.lst [.int x.key, .int x.panes, .int (whenN st bm), .int (if (st.mode : Int) = 0 then x.newCount else x.allCount), .int (if (st.mode : Int) = 0 then x.newSum else x.allSum)]))
    refine ⟨_, rfl, p, C, dx, _, rfl, s2 _ _ h1, T.cl, T.nlp, l9 8 rfl, ?_⟩
    refine ⟨_, rfl, p, C, dx, _, _, rfl, upd_same, T.cl, T.npn, rfl, _, _, rfl, rfl, dx, _, upd_same, l9 8 rfl, ?_⟩
    refine ⟨_, rfl, p, C, dx, _, rfl, upd_same, T.cl, T.nnc, l9 8 rfl, ?_⟩
    refine ⟨_, rfl, p, C, dx, _, rfl, upd_same, T.cl, T.nns, l9 8 rfl, ?_⟩
    simp only [upd_upd]
    have hlp : l ≠ p := ne_of hll (s1 _ _ h1) (fun z => nomatch z)
    have hrp : r ≠ p := fun z => by rw [z, s1 _ _ h1] at hr'; cases hr'
    have hlr : l ≠ r := ne_of_none hll hr'
    refine ⟨_, rfl, sz, fun l3 hl3 => ?_⟩
    refine ⟨l, l3, _, _, rfl, rfl, same_new hl3 _ _ _ (by rw [upd_ne hlp, upd_ne hlr]; exact hll), upd_same, sz (by simp only [List.length_singleton]; omega), fun l4 hl4 => ?_⟩
    refine ⟨_, rfl, p, C, dx, _, _, rfl, same_new hl4 _ _ _ (same_new hl3 _ _ _ upd_same), T.cl, T.nlp, rfl, l4, r, _, _, rfl, rfl, upd_same, same_new hl4 _ _ _ (same_new hl3 _ _ _ (by rw [upd_ne hrp]; exact upd_same)), sz (by rw [List.length_append]; show _ + 1 + 5 ≤ 16777216; omega), fun l5 hl5 => ?_⟩
    have s3 := (same_new hl3 (.lst [.int 1])).trans (same_new hl4 (.lst (xs ++ [.int 1])))
    have s4 := same_new hl5 (.lst (xs ++ [.int 1] ++ [.int x.key, .int x.panes, .int (whenN st bm), .int (if (st.mode : Int) = 0 then x.newCount else x.allCount), .int (if (st.mode : Int) = 0 then x.newSum else x.allSum)]))
    have pn : ([.int x.key, .int x.panes, .int (whenN st bm), .int (if (st.mode : Int) = 0 then x.newCount else x.allCount), .int (if (st.mode : Int) = 0 then x.newSum else x.allSum)] : List V) =
        nv (Hs03.paneTold ⟨x.key, x.panes, whenN st bm, if st.mode = 0 then x.newCount else x.allCount, if st.mode = 0 then x.newSum else x.allSum⟩) := by
      by_cases em : st.mode = 0
      · simp only [em, if_true]
        rfl
      · simp only [em, if_false, show ¬ ((st.mode : Nat) : Int) = 0 by omega]
        rfl
    have bu := (But.of (p := p) s2).trans (But.upd.trans (But.of s3))
    have hl5p : l5 ≠ p := fun z => by
      rw [z, s3 _ _ upd_same] at hl5
      cases hl5
    have hr5 : r ≠ l5 := fun z => by
      rw [← z, s3 _ _ (by rw [upd_ne hrp]; exact upd_same)] at hl5
      cases hl5
    refine k _ l5 (bu.trans (But.of s4)) (bu.free hl5 hl5p) ?_ ⟨⟨dx, tv, r, s4 _ _ (s3 _ _ upd_same), ?_, ?_, ?_⟩, hd, ?_⟩
    · rw [upd_same, chg_append, ← hx, pn, List.append_assoc]
      rfl
    · refine h2.keep fun a ys e => s4 _ _ (s3 _ _ ?_)
      rw [upd_ne (ne_of e h1 (fun z => nomatch z))]
      exact s2 _ _ e
    · exact (s4 _ _ (s3 _ _ (by rw [upd_ne hrp]; exact upd_same))).trans (congrArg (fun z => some (HO.lst z)) pn)
    · rintro (z | z)
      · exact hr5 z
      · obtain ⟨o, z⟩ := hav r z
        rw [s1 _ _ z] at hr'
        cases hr'
    · exact ⟨fun z => absurd z (Nat.succ_ne_zero _), fun z => absurd z (by intro y; cases y)⟩
end
end M

end
section
set_option Elab.async false
set_option linter.all false
set_option maxRecDepth 100000
set_option maxHeartbeats 2000000
namespace M
open PySem PySem.Spec PyProof.Rows L2
open Hs03 (Trig T begun hears keyHears)
theorem ifNB {b : Bool} {A B : Prop} (h1 : b = false → A) (h2 : b = true → B) : if (!b) = true then A else B := by
  cases b with
  | true => exact iteF (h2 rfl)
  | false => exact iteT (h1 rfl)
/-- a pile stays, a little finer -/
theorem PileAt.keep2 {C : Addr} {av av' : Addr → Prop} {H H' : Hp} {p : Addr} {x : Hs03.Key} (P : PileAt C av H p x) (k : ∀ b o, H b = some o → (b = p ∨ (∃ xs, o = .tup xs) ∨ (∃ xs, o = .lst xs ∧ ¬ av b)) → H' b = some o)
    (ka : ∀ b o, H b = some o → av' b → av b) : PileAt C av' H' p x := by
  obtain ⟨⟨dx, v, q, h1, h2, h3, h4⟩, hd, hl⟩ := P
  exact ⟨⟨dx, v, q, k _ _ h1 (.inl rfl), h2.keep (fun a xs e => k _ _ e (.inr (.inl ⟨_, rfl⟩))), k _ _ h3 (.inr (.inr ⟨_, rfl, h4⟩)), fun z => h4 (ka q _ h3 z)⟩, hd, hl⟩
theorem PileAt.grow {C : Addr} {av : Addr → Prop} {H H' : Hp} {p r : Addr} {x : Hs03.Key} (P : PileAt C av H p x) (hr : H r = none) (s : Same H H') : PileAt C (fun b => b = r ∨ av b) H' p x := by
  obtain ⟨⟨dx, v, q, h1, h2, h3, h4⟩, hd, hl⟩ := P
  refine ⟨⟨dx, v, q, s _ _ h1, h2.same s, s _ _ h3, fun z => ?_⟩, hd, hl⟩
  rcases z with z | z
  · rw [z, hr] at h3
    cases h3
  · exact h4 z
/-! ### the stretch -/
def sf (mode emp : Int) (tv : V) (mp : Bool) (d : Addr) (tk lf : Int) : List (Str × V) := [("mode", .int mode), ("empties", .int emp), ("trigger", tv), ("mark_passed", .bl mp), ("piles", .ref d), ("taken", .int tk), ("not_taken", .int lf)]
theorem sf_pf {CS C dx dx' d q : Addr} {m e k nc ns ac as_ pn tk lf : Int} {tv v : V} {b : Bool} : HO.ins CS dx (sf m e tv b d tk lf) ≠ HO.ins C dx' (pf k v nc ns ac as_ pn q) := fun z => by
  injection z with _ _ z
  injection z with z _
  injection z with z _
  exact absurd z (by decide)
structure STx (K : PySem.W.Frag) (mg : Str → Option Value) (CS : Addr) : Prop where
  cl : Cls K CS
  nmode : NoAttr K CS "mode"
  nemp : NoAttr K CS "empties"
  ntrig : NoAttr K CS "trigger"
  nmp : NoAttr K CS "mark_passed"
  npiles : NoAttr K CS "piles"
  ntaken : NoAttr K CS "taken"
  nleft : NoAttr K CS "not_taken"
  early : CI mg "EARLY" 0
  byMark : CI mg "BY_THE_MARK" 1
  late : CI mg "LATE" 2
  lastKey : CI mg "LAST_KEY" 9
  mostV : CI mg "MOST_VALUE" 1000000
  mostT : CI mg "MOST_TICKS" 200
  numC : CI mg "NUMBERS_OF_A_CHANGE" 6
  sorted : mg "sorted" = none
  range : mg "range" = none
def InstAt (CS : Addr) (H : Hp) (st : Addr) (s : Hs03.St) : Prop := ∃ dx tv d tk lf, H st = some (.ins CS dx (sf s.mode (Hs03.flag s.empties) tv s.passed d tk lf))
structure StB (CS C : Addr) (av : Addr → Prop) (H : Hp) (st : Addr) (s : Hs03.St) (dx : Addr) (tv : V) (d : Addr) (kvs : List (L2.Key × V)) (ks : List Int) (A : Nat → Addr) : Prop where
  inst : H st = some (.ins CS dx (sf s.mode (Hs03.flag s.empties) tv s.passed d s.taken s.left))
  trig : TrAt H tv (begun s.trigger)
  dpt : depT s.trigger ≤ 10
  dict : H d = some (.dK kvs)
  keys : kvs.map (·.1) = ks.map Sum.inl
  perm : ks.Perm (s.keys.map fun x => (x.key : Int))
  vals : ∀ x ∈ s.keys, valV kvs (.inl (x.key : Int)) = some (.ref (A x.key))
  inj : ∀ x ∈ s.keys, ∀ y ∈ s.keys, A x.key = A y.key → x.key = y.key
  pile : ∀ x ∈ s.keys, PileAt C av H (A x.key) x
  srt : s.keys.Pairwise (fun a b => a.key < b.key)
  le9 : ∀ x ∈ s.keys, x.key ≤ 9
def StAt (CS C : Addr) (av : Addr → Prop) (H : Hp) (st : Addr) (s : Hs03.St) : Prop := ∃ dx tv d kvs ks A, StB CS C av H st s dx tv d kvs ks A
section
variable {CS C : Addr} {av av' : Addr → Prop} {H H' : Hp} {st : Addr} {s : Hs03.St} {dx : Addr} {tv : V} {d : Addr} {kvs : List (L2.Key × V)} {ks : List Int} {A : Nat → Addr}
theorem StB.keep (B : StB CS C av H st s dx tv d kvs ks A) (k : ∀ b o, H b = some o → (∀ xs, o = .lst xs → ¬ av b) → H' b = some o) (ka : ∀ b o, H b = some o → av' b → av b) : StB CS C av' H' st s dx tv d kvs ks A where
  inst := k _ _ B.inst (fun _ z => nomatch z)
  trig := B.trig.keep fun a xs e => k _ _ e (fun _ z => nomatch z)
  dpt := B.dpt
  dict := k _ _ B.dict (fun _ z => nomatch z)
  keys := B.keys
  perm := B.perm
  vals := B.vals
  inj := B.inj
  pile := fun x hx => (B.pile x hx).keep k ka
  srt := B.srt
  le9 := B.le9
theorem StB.len (B : StB CS C av H st s dx tv d kvs ks A) : s.keys.length ≤ 10 := by
  have h : ∀ (l : List Hs03.Key) (n : Nat), l.Pairwise (fun a b => a.key < b.key) → (∀ x ∈ l, n ≤ x.key ∧ x.key ≤ 9) → l.length ≤ 10 - n := by
    intro l
    induction l with
    | nil => intro n _ _; exact Nat.zero_le _
    | cons y r ih =>
      intro n h1 h2
      obtain ⟨h3, h4⟩ := List.pairwise_cons.mp h1
      obtain ⟨h5, h6⟩ := h2 y (List.mem_cons_self ..)
      have := ih (y.key + 1) h4 fun x hx => ⟨h3 x hx, (h2 x (List.mem_cons_of_mem _ hx)).2⟩
      rw [List.length_cons]
      omega
  exact h s.keys 0 B.srt fun x hx => ⟨Nat.zero_le _, B.le9 x hx⟩
/-- one key's pile turns, all else stays -/
theorem StB.step (B : StB CS C av H st s dx tv d kvs ks A) {i : Nat} {x y : Hs03.Key} (hx : s.keys[i]? = some x) (hk : y.key = x.key) (bu : But (A x.key) H H') (hy : PileAt C av H' (A x.key) y) :
    StB CS C av H' st { s with keys := s.keys.set i y } dx tv d kvs ks A := by
  have mx : x ∈ s.keys := List.mem_of_getElem? hx
  obtain ⟨hi, ex⟩ := List.getElem?_eq_some_iff.mp hx
  obtain ⟨⟨dx', v', q', h1, h2, h3, h4⟩, _, _⟩ := B.pile x mx
  have nd : ∀ j z, s.keys[j]? = some z → j ≠ i → z.key ≠ x.key := fun j z hz hj e => by
    obtain ⟨hj', ez⟩ := List.getElem?_eq_some_iff.mp hz
    have pw := List.pairwise_iff_getElem.mp B.srt
    rcases Nat.lt_or_gt_of_ne hj with q | q
    · have := pw j i hj' hi q
      rw [ez, ex] at this
      omega
    · have := pw i j hi hj' q
      rw [ez, ex] at this
      omega
  have mem : ∀ z, z ∈ s.keys.set i y → z = y ∨ (z ∈ s.keys ∧ z.key ≠ x.key) := fun z hz => by
    obtain ⟨j, hj⟩ := List.mem_iff_getElem?.mp hz
    by_cases e : j = i
    · subst e
      rw [List.getElem?_set_self hi] at hj
      exact .inl (Option.some.inj hj).symm
    · rw [List.getElem?_set_ne (fun q => e q.symm)] at hj
      exact .inr ⟨List.mem_of_getElem? hj, nd j z hj e⟩
  have kmap : (s.keys.set i y).map (fun x => x.key) = s.keys.map (fun x => x.key) := by
    rw [List.map_set, hk]
    apply List.ext_getElem?
    intro j
    by_cases e : i = j
    · subst e
      rw [List.getElem?_set_self (by simpa using hi), List.getElem?_map, hx]
      rfl
    · rw [List.getElem?_set_ne e]
  have mk : ∀ z, z ∈ s.keys.set i y → ∃ z' ∈ s.keys, z'.key = z.key := fun z hz => by
    rcases mem z hz with rfl | ⟨m, _⟩
    · exact ⟨x, mx, hk.symm⟩
    · exact ⟨z, m, rfl⟩
  refine ⟨bu _ _ B.inst (ne_of B.inst h1 sf_pf), B.trig.keep (fun a xs e => bu _ _ e (ne_of e h1 (fun z => nomatch z))), B.dpt, bu _ _ B.dict (ne_of B.dict h1 (fun z => nomatch z)), B.keys, ?_, fun z hz => ?_, fun z hz u hu e => ?_, fun z hz => ?_, ?_, fun z hz => ?_⟩
  · have e : ((s.keys.set i y).map fun x => (x.key : Int)) = s.keys.map fun x => (x.key : Int) := by
      have := congrArg (List.map (fun n : Nat => (n : Int))) kmap
      rw [List.map_map, List.map_map] at this
      exact this
    show ks.Perm ((s.keys.set i y).map fun x => (x.key : Int))
    rw [e]
    exact B.perm
  · obtain ⟨z', m, e⟩ := mk z hz
    rw [← e]
    exact B.vals z' m
  · obtain ⟨z', m, e1⟩ := mk z hz
    obtain ⟨u', m', e2⟩ := mk u hu
    rw [← e1, ← e2] at e ⊢
    exact B.inj z' m u' m' e
  · rcases mem z hz with rfl | ⟨m, ne⟩
    · rw [hk]
      exact hy
    · refine (B.pile z m).keep2 (fun b o e w => bu b o e ?_) (fun _ _ _ w => w)
      rcases w with rfl | ⟨xs, rfl⟩ | ⟨xs, rfl, _⟩
      · exact fun q => ne (B.inj z m x mx q)
      · exact ne_of e h1 (fun z => nomatch z)
      · exact ne_of e h1 (fun z => nomatch z)
  · have : ((s.keys.set i y).map fun x => x.key).Pairwise (· < ·) := by
      rw [kmap]
      exact List.pairwise_map.mpr B.srt
    exact List.pairwise_map.mp this
  · obtain ⟨z', m, e⟩ := mk z hz
    rw [← e]
    exact B.le9 z' m
end
/-- all that is no instance and no dict stays -/
def noOb : HO → Bool
  | .ins _ _ _ => false
  | .dK _ => false
  | _ => true
def Fra (H H' : Hp) : Prop := ∀ b o, H b = some o → noOb o = true → H' b = some o
theorem Fra.trans {H H1 H2 : Hp} (a : Fra H H1) (b : Fra H1 H2) : Fra H H2 := fun c o h n => b c o (a c o h n) n
theorem Fra.of {H H' : Hp} (s : Same H H') : Fra H H' := fun b o e _ => s b o e
theorem Fra.but {H H' : Hp} {p C dx : Addr} {fs : List (Str × V)} (e : H p = some (.ins C dx fs)) (s : But p H H') : Fra H H' := fun b o h n => s b o h fun q => by
  rw [q, e] at h
  cases h
  cases n
theorem Fra.dict {H : Hp} {d : Addr} {kvs : List (L2.Key × V)} {o : HO} (e : H d = some (.dK kvs)) : Fra H (upd H d o) := fun b u h n => by
  rw [upd_ne]
  · exact h
  · intro q
    rw [q, e] at h
    cases h
    cases n
theorem Fra.seq {K : PySem.W.Frag} {H H' : Hp} {a : Addr} {xs : List V} (e : Fra H H') (h : SqL K H a xs) : SqL K H' a xs := by
  rcases h with (h | ⟨o, h⟩) | h
  · exact .inl (.inl (e _ _ h rfl))
  · exact .inl (.inr ⟨o, e _ _ h rfl⟩)
  · exact .inr h
/-! ### promises -/
def spWH (CS : Addr) : Sp := fun vs H Q _ => ∃ (st : Addr) (s : Hs03.St) (h : Hs03.H), vs = [.ref st, .int (hc h)] ∧ InstAt CS H st s ∧ Q (.int (whenN s (decide (h = .mark)))) H
def spLH (CS C : Addr) : Sp := fun vs H Q _ => ∃ (st p : Addr) (s : Hs03.St) (h : Hs03.H) (x : Hs03.Key) (av : Addr → Prop), vs = [.ref st, .ref p, .int (hc h)] ∧ InstAt CS H st s ∧ PileAt C av H p x ∧ (∀ b, av b → ∃ o, H b = some o) ∧
  ∀ (H' : Hp) (r : Addr), But p H H' → H r = none → H' r = some (.lst (chg (keyHears s h x).2)) → PileAt C (fun b => b = r ∨ av b) H' p (keyHears s h x).1 → Q (.ref r) H'
section
variable {P : Program} {w : World} {K : PySem.W.Frag} {mg : Str → Option Value} {base : Heap} {CS C : Addr}
theorem sc_wh : FnScope ["self", "heard"] ["self", "heard"] (defScope s_Stretch_when_heard) := ⟨rfl, rfl, rfl, by decide +kernel, rfl, by decide +kernel, by decide +kernel⟩
theorem ok_when_heard (D : MDef K CS "when_heard" "Stretch.when_heard" s_Stretch_when_heard ["self", "heard"]) (T : Cs mg) (S : STx K mg CS) : MCal P w K mg base 1 CS "when_heard" ["self", "heard"] (spWH CS) := by
  obtain ⟨f, fd, F, b, m⟩ := D
  refine ⟨f, fd, F.ok sc_wh (fun vs H Q E h => ?_) (fun cdv A outer s H vs Q E hr h => ?_), b, m⟩
  · obtain ⟨st, s, h, rfl, _⟩ := h
    rfl
  obtain ⟨st, sp, h, rfl, ⟨dx, tv, d, tk, lf, hi⟩, q⟩ := h
  refine ⟨_, pss_cons (ps_if (pt_cmp (pc_eqI (pv 1) (pg_ci T.mark))) (pss_one (ps_ret (pg_ci S.byMark))) pss_nil)
    (pss_cons (ps_if (pt_val (pe_fld (pv 0) rfl)) (pss_one (ps_ret (pg_ci S.late))) pss_nil) (pss_one (ps_ret (pg_ci S.early)))), ?_⟩
  refine ⟨_, rfl, _, _, rfl, rfl, _, rfl, if2 (fun c => ?_) (fun c => ?_)⟩
  · obtain rfl := hc2 c
    exact q
  have hn : decide (h = .mark) = false := decide_eq_false fun z => c (by rw [z]; rfl)
  rw [hn] at q
  refine ⟨_, rfl, st, CS, dx, _, _, rfl, hi, S.cl, S.nmp, rfl, _, rfl, ifB (fun c2 => ?_) (fun c2 => ?_)⟩
  · simp only [whenN, c2, if_true, Bool.false_eq_true, if_false] at q
    exact q
  · simp only [whenN, c2, Bool.false_eq_true, if_false] at q
    exact q
theorem sc_lh : FnScope ["self", "pile", "heard", "outcome"] ["self", "pile", "heard"] (defScope s_Stretch_let_hear) := ⟨rfl, rfl, rfl, by decide +kernel, rfl, by decide +kernel, by decide +kernel⟩
theorem ok_let_hear (D : MDef K CS "let_hear" "Stretch.let_hear" s_Stretch_let_hear ["self", "pile", "heard"]) (T : Cs mg) (S : STx K mg CS) (PT : PTx K mg C) (HE : Cal P w K mg base 22 "hear" ["trigger", "heard"] (spHr fun t => dep t ≤ 10))
    (TE : MCal P w K mg base 2 C "tell" ["self", "mode", "empties", "when"] (spTell C)) (WH : MCal P w K mg base 1 CS "when_heard" ["self", "heard"] (spWH CS)) :
    MCal P w K mg base 23 CS "let_hear" ["self", "pile", "heard"] (spLH CS C) := by
  obtain ⟨f, fd, F, b, m⟩ := D
  refine ⟨f, fd, F.ok sc_lh (fun vs H Q E h => ?_) (fun cdv A outer s H vs Q E hr h => ?_), b, m⟩
  · obtain ⟨st, p, s, h, x, av, rfl, _⟩ := h
    rfl
  obtain ⟨st, p, sp, h, x, av, rfl, ⟨dxs, tvs, d, tks, lfs, hi⟩, ⟨⟨dx, tv, q, h1, h2, h3, h4⟩, hd, hl⟩, hav, k⟩ := h
  refine ⟨_, pss_cons (ps_if (pt_cmp (pc_isN (pe_fld (pv 1) rfl))) (pss_one (ps_ret (pe_lst pa_nil))) pss_nil)
    (pss_cons (ps_set (i := 3) sc_lh.nd rfl (Or.inl rfl) (pe_cal HE hr (pa_cons (pe_fld (pv 1) rfl) (pa_cons (pv 2) pa_nil))))
    (pss_cons (ps_fld (pv 1) (pe_ix ix_tup (pv 3) (pg_ci T.left) (fun _ _ => rfl)) rfl)
    (pss_cons (ps_if (pt_not (pt_val (pe_ix ix_tup (pv 3) (pg_ci T.fires) (fun _ _ => rfl)))) (pss_one (ps_ret (pe_lst pa_nil))) pss_nil)
    (pss_one (ps_ret (pe_mcal (pv 1) PT.cl TE (hr.mono (show 2 ≤ 22 by decide)) (pa_cons (pe_fld (pv 0) rfl) (pa_cons (pe_fld (pv 0) rfl) (pa_cons (pe_mcal (pv 0) S.cl WH (hr.mono (show 1 ≤ 22 by decide)) (pa_cons (pv 2) pa_nil)) pa_nil))))))))), ?_⟩
  refine ⟨_, rfl, p, C, dx, _, _, rfl, h1, PT.cl, PT.ntrig, rfl, _, rfl, if2 (fun c => ?_) (fun c => ?_)⟩
  · rw [h2.non_iff] at c
    have e : keyHears sp h x = (x, []) := by simp only [keyHears, c]
    rw [e] at k
    refine ⟨sz, fun r hr' => ?_⟩
    have s1 := same_new hr' (.lst [])
    refine k _ r (But.of s1) hr' upd_same ⟨⟨dx, tv, q, s1 _ _ h1, h2.same s1, s1 _ _ h3, fun z => ?_⟩, hd, hl⟩
    rcases z with z | z
    · rw [z, hr'] at h3
      cases h3
    · exact h4 z
  rw [h2.non_iff] at c
  obtain ⟨t, et⟩ : ∃ t, x.trig = some t := by
    cases e : x.trig with
    | none => exact absurd e c
    | some t => exact ⟨t, rfl⟩
  rw [et] at h2
  refine ⟨_, rfl, p, C, dx, _, _, rfl, h1, PT.cl, PT.ntrig, rfl, _, rfl, tv, t, h, rfl, h2, hd t et, fun r H1 s1 ⟨w1, o1, l1⟩ => ?_⟩
  refine ⟨_, rfl, r, _, _, _, rfl, rfl, SqT.of o1, at1, _, rfl, p, C, dx, _, rfl, s1 _ _ h1, PT.cl, PT.ntrig, l9 8 rfl, ?_⟩
  have hb2 : But p H1 (upd H1 p (.ins C dx (putF "trigger" w1 (pf x.key tv x.newCount x.newSum x.allCount x.allSum x.panes q)))) := But.upd
  have bu := (But.of (p := p) s1).trans hb2
  have hrp : r ≠ p := ne_of o1 (s1 _ _ h1) (fun z => nomatch z)
  have hqp : q ≠ p := ne_of h3 h1 (fun z => nomatch z)
  have hsp : st ≠ p := ne_of hi h1 sf_pf
  have py : PileAt C av (upd H1 p (.ins C dx (putF "trigger" w1 (pf x.key tv x.newCount x.newSum x.allCount x.allSum x.panes q)))) p { x with trig := (hears t h).2 } := by
    refine ⟨⟨dx, w1, q, upd_same, l1.keep (fun a xs e => hb2 _ _ e (ne_of e (s1 _ _ h1) (fun z => nomatch z))), bu _ _ h3 hqp, h4⟩, fun u e => ?_, hl⟩
    exact Nat.le_trans (dep_hears t h u e) (hd t et)
  refine ⟨_, rfl, r, _, _, _, rfl, rfl, SqT.of (hb2 _ _ o1 hrp), at0, _, rfl, ifNB (fun c2 => ?_) (fun c2 => ?_)⟩
  · have e : keyHears sp h x = ({ x with trig := (hears t h).2 }, []) := by simp only [keyHears, et, c2, Bool.false_eq_true, if_false]
    rw [e] at k
    refine ⟨sz, fun r' hr' => ?_⟩
    have s2 := same_new hr' (.lst [])
    have hrp' : r' ≠ p := fun z => by rw [z, upd_same] at hr'; cases hr'
    refine k _ r' (bu.trans (But.of s2)) (bu.free hr' hrp') upd_same (py.grow hr' s2)
  · have e : keyHears sp h x = Hs03.pane sp (decide (h = .mark)) { x with trig := (hears t h).2 } := by simp only [keyHears, et, c2, if_true]
    rw [e] at k
    refine ⟨_, rfl, p, dx, _, rfl, upd_same, rfl, _, rfl, st, CS, dxs, _, _, rfl, bu _ _ hi hsp, S.cl, S.nmode, rfl, _, rfl, st, CS, dxs, _, _, rfl, bu _ _ hi hsp, S.cl, S.nemp, rfl, _, rfl, st, dxs, _, rfl, bu _ _ hi hsp, rfl, _, rfl,
      st, sp, h, rfl, ⟨dxs, tvs, d, tks, lfs, bu _ _ hi hsp⟩, ?_⟩
    refine ⟨p, sp, decide (h = .mark), { x with trig := (hears t h).2 }, av, rfl, py, fun b hb => ?_, fun H' r' b1 e1 e2 e3 => ?_⟩
    · obtain ⟨o, ho⟩ := hav b hb
      by_cases z : b = p
      · subst z
        exact ⟨_, upd_same⟩
      · exact ⟨o, bu _ _ ho z⟩
    · have hrp' : r' ≠ p := fun z => by rw [z, upd_same] at e1; cases e1
      exact k H' r' (bu.trans b1) (bu.free e1 hrp') e2 e3
end
end M

end
section
set_option Elab.async false
set_option linter.all false
set_option maxRecDepth 100000
set_option maxHeartbeats 2000000
namespace M
open PySem PySem.Spec PyProof.Rows L2
open Hs03 (Trig T begun hears keyHears allHear)
/-! ### mathematics -/
theorem key_pane (s : Hs03.St) (b : Bool) (x : Hs03.Key) : (Hs03.pane s b x).1.key = x.key := by
  unfold Hs03.pane
  split <;> rfl
theorem key_hears (s : Hs03.St) (h : Hs03.H) (x : Hs03.Key) : (keyHears s h x).1.key = x.key := by
  unfold keyHears
  split
  · rfl
  · simp only []
    split
    · exact key_pane s _ _
    · rfl
theorem len_pane (s : Hs03.St) (b : Bool) (x : Hs03.Key) : (Hs03.pane s b x).2.length ≤ 2 := by
  unfold Hs03.pane
  split
  · exact Nat.zero_le _
  · rw [List.length_append]
    cases x.last with
    | none => exact Nat.le_succ _
    | some q =>
      show (if s.mode = 2 then _ else _ : List Hs03.Change).length + 1 ≤ 2
      split
      · exact Nat.le_refl _
      · exact Nat.le_succ _
theorem len_hears (s : Hs03.St) (h : Hs03.H) (x : Hs03.Key) : (keyHears s h x).2.length ≤ 2 := by
  unfold keyHears
  split
  · exact Nat.zero_le _
  · simp only []
    split
    · exact len_pane s _ _
    · exact Nat.zero_le _
theorem len_flat (s : Hs03.St) (h : Hs03.H) : ∀ l : List Hs03.Key, (l.flatMap fun x => (keyHears s h x).2).length ≤ 2 * l.length
  | [] => Nat.zero_le _
  | x :: r => by
    have h1 := len_hears s h x
    have h2 := len_flat s h r
    rw [List.flatMap_cons, List.length_append, List.length_cons]
    omega
/-- the keys when the first i of them have heard -/
def upK (s : Hs03.St) (h : Hs03.H) (i : Nat) : List Hs03.Key := (s.keys.take i).map (fun x => (keyHears s h x).1) ++ s.keys.drop i
theorem upK_at {s : Hs03.St} {h : Hs03.H} {i : Nat} {x : Hs03.Key} (e : s.keys[i]? = some x) : (upK s h i)[i]? = some x := by
  obtain ⟨hi, ex⟩ := List.getElem?_eq_some_iff.mp e
  unfold upK
  rw [List.getElem?_append_right (by rw [List.length_map, List.length_take]; omega), List.length_map, List.length_take, Nat.min_eq_left (by omega), Nat.sub_self, List.getElem?_drop, Nat.add_zero]
  exact e
theorem take_snoc {α : Type} : ∀ {l : List α} {i : Nat} {x : α}, l[i]? = some x → l.take (i + 1) = l.take i ++ [x]
  | [], i, x, h => by simp at h
  | a :: l, 0, x, h => by
    have e : a = x := Option.some.inj h
    subst e
    rfl
  | a :: l, i + 1, x, h => by
    have ih := take_snoc (l := l) (i := i) (x := x) h
    show a :: l.take (i + 1) = a :: l.take i ++ [x]
    rw [ih]
    rfl
theorem upK_set {s : Hs03.St} {h : Hs03.H} {i : Nat} {x : Hs03.Key} (e : s.keys[i]? = some x) : (upK s h i).set i (keyHears s h x).1 = upK s h (i + 1) := by
  obtain ⟨hi, ex⟩ := List.getElem?_eq_some_iff.mp e
  unfold upK
  have hd : s.keys.drop i = x :: s.keys.drop (i + 1) := by rw [List.drop_eq_getElem_cons hi, ex]
  rw [take_snoc e, List.map_append, List.append_assoc, hd]
  have hl : ((s.keys.take i).map fun x => (keyHears s h x).1).length = i := by rw [List.length_map, List.length_take]; omega
  rw [List.set_append_right _ _ (by omega), hl, Nat.sub_self]
  rfl
theorem upK_all (s : Hs03.St) (h : Hs03.H) : upK s h s.keys.length = s.keys.map fun x => (keyHears s h x).1 := by
  unfold upK
  rw [List.take_length, List.drop_length, List.append_nil]
section
variable {CS C : Addr} {av av' : Addr → Prop} {H H' : Hp} {st : Addr} {s : Hs03.St} {dx : Addr} {tv : V} {d : Addr} {kvs : List (L2.Key × V)} {ks : List Int} {A : Nat → Addr}
theorem StB.grow {r : Addr} (B : StB CS C av H st s dx tv d kvs ks A) (hr : H r = none) (sm : Same H H') : StB CS C (fun b => b = r ∨ av b) H' st s dx tv d kvs ks A :=
  ⟨sm _ _ B.inst, B.trig.same sm, B.dpt, sm _ _ B.dict, B.keys, B.perm, B.vals, B.inj, fun x hx => (B.pile x hx).grow hr sm, B.srt, B.le9⟩
end
/-- .. but the list at l -/
def FraX (l : Addr) (H H' : Hp) : Prop := ∀ b o, H b = some o → noOb o = true → b ≠ l → H' b = some o
theorem FraX.trans {l : Addr} {H H1 H2 : Hp} (a : FraX l H H1) (b : FraX l H1 H2) : FraX l H H2 := fun c o h n z => b c o (a c o h n z) n z
theorem FraX.of {l : Addr} {H H' : Hp} (s : Fra H H') : FraX l H H' := fun b o e n _ => s b o e n
theorem FraX.upd {l : Addr} {H : Hp} {o : HO} : FraX l H (upd H l o) := fun b u e _ n => by rw [upd_ne n]; exact e
theorem FraX.fra {l : Addr} {H H1 H' : Hp} (a : FraX l H1 H') (s : Same H H1) (hl : H l = none) : Fra H H' := fun b o e n => a b o (s _ _ e) n (ne_of_none e hl)
/-- what was tracked still is -/
def Trk (H H' : Hp) : Prop := ∀ b o, H b = some o → ∃ o', H' b = some o'
theorem Trk.trans {H H1 H2 : Hp} (a : Trk H H1) (b : Trk H1 H2) : Trk H H2 := fun c o e => by
  obtain ⟨o1, e1⟩ := a c o e
  exact b c o1 e1
theorem Trk.same {H H' : Hp} (s : Same H H') : Trk H H' := fun b o e => ⟨o, s b o e⟩
theorem Trk.but {H H' : Hp} {p : Addr} {o' : HO} (s : But p H H') (e : H' p = some o') : Trk H H' := fun b o h => by
  by_cases z : b = p
  · subst z
    exact ⟨_, e⟩
  · exact ⟨o, s b o h z⟩
theorem Trk.upd {H : Hp} {a : Addr} {o : HO} : Trk H (upd H a o) := Trk.but But.upd upd_same
theorem PileAt.there {C : Addr} {av : Addr → Prop} {H : Hp} {p : Addr} {x : Hs03.Key} (P : PileAt C av H p x) : ∃ o, H p = some o := by
  obtain ⟨⟨dx, v, q, h1, _⟩, _, _⟩ := P
  exact ⟨_, h1⟩
def spAH (CS C : Addr) : Sp := fun vs H Q _ => ∃ (st : Addr) (s : Hs03.St) (h : Hs03.H) (av : Addr → Prop), vs = [.ref st, .int (hc h)] ∧ StAt CS C av H st s ∧ (∀ b, av b → ∃ o, H b = some o) ∧
  ∀ (H' : Hp) (r : Addr), Fra H H' → Trk H H' → H r = none → H' r = some (.lst (chg (allHear s h).2)) → StAt CS C (fun b => b = r ∨ av b) H' st (allHear s h).1 → Q (.ref r) H'
section
variable {P : Program} {w : World} {K : PySem.W.Frag} {mg : Str → Option Value} {base : Heap} {CS C : Addr}
theorem sc_ah : FnScope ["self", "heard", "changes", "key"] ["self", "heard"] (defScope s_Stretch_let_all_hear) := ⟨rfl, rfl, rfl, by decide +kernel, rfl, by decide +kernel, by decide +kernel⟩
theorem ok_let_all_hear (D : MDef K CS "let_all_hear" "Stretch.let_all_hear" s_Stretch_let_all_hear ["self", "heard"]) (S : STx K mg CS) (LH : MCal P w K mg base 23 CS "let_hear" ["self", "pile", "heard"] (spLH CS C)) :
    MCal P w K mg base 24 CS "let_all_hear" ["self", "heard"] (spAH CS C) := by
  obtain ⟨f, fd, F, b, m⟩ := D
  refine ⟨f, fd, F.ok sc_ah (fun vs H Q E h => ?_) (fun cdv A outer s H vs Q E hr h => ?_), b, m⟩
  · obtain ⟨st, s, h, av, rfl, _⟩ := h
    rfl
  obtain ⟨st, sp, h, av, rfl, ⟨dx, tv, d, kvs, ks, Ad, B⟩, hav, k⟩ := h
  refine ⟨_, pss_cons (ps_set (i := 2) sc_ah.nd rfl (Or.inl rfl) (pe_lst pa_nil))
    (pss_cons (ps_for PassesOwn.never rfl (pi_list (pe_callB (cr_sortedD rfl) (by rfl) S.sorted boot_sorted (pa_cons (pe_fld (pv 0) rfl) pa_nil))) (pg_name (i := 3) sc_ah.nd rfl (Or.inl rfl))
      (pss_one (ps_expr (pe_bm PySem.F.plainAttrs_list PySem.F.slot_list_extend PySem.F.type_list_extend mt_extend (pv 2)
        (pa_cons (pe_mcal (pv 0) S.cl LH hr (pa_cons (pe_dget (hu_of hr) (pe_fld (pv 0) rfl) (pv 3) (fun _ _ => rfl)) (pa_cons (pv 1) pa_nil))) pa_nil)))))
    (pss_one (ps_ret (pv 2)))), ?_⟩
  refine ⟨sz, fun l hl => ?_⟩
  have s0 := same_new hl (.lst [])
  have B0 := B.grow hl s0
  have klen : ks.length = sp.keys.length := by rw [B.perm.length_eq, List.length_map]
  have h10 := B.len
  refine ⟨_, rfl, st, CS, dx, _, _, rfl, B0.inst, S.cl, S.npiles, rfl, d, kvs, ks, rfl, B0.dict, B0.keys, by omega, fun ns p hpm hpw hp => ?_⟩
  have ens : ns = sp.keys.map fun x => (x.key : Int) := by
    refine PySem.W.ksm_same (hpm.trans B.perm) hpw ?_
    refine List.pairwise_map.mpr (B.srt.imp ?_)
    intro a b q
    omega
  have s1 := s0.trans (same_new hp (.lst (ns.map V.int)))
  have hlp : l ≠ p := ne_of_none (upd_same (H := H) (a := l) (o := .lst [])) hp
  have B1 := B0.keep (av' := fun b => b = l ∨ av b) (fun b o e _ => same_new hp (.lst (ns.map V.int)) b o e) (fun _ _ _ z => z)
  refine ⟨p, rfl, ⟨_, SqL.of upd_same⟩, for_list (K := K) (a := p) (xs := ns.map V.int) (fun i σ H' => ∃ v : Option V, σ = [some (.ref st), some (.int (hc h)), some (.ref l), v] ∧
      FraX l (upd (upd H l (.lst [])) p (.lst (ns.map V.int))) H' ∧ H' l = some (.lst (chg ((sp.keys.take i).flatMap fun x => (keyHears sp h x).2))) ∧ StB CS C (fun b => b = l ∨ av b) H' st { sp with keys := upK sp h i } dx tv d kvs ks Ad ∧ Trk H H')
    ⟨none, rfl, fun b o e _ _ => e, (by rw [upd_ne hlp]; exact upd_same), B1, Trk.same s1⟩ (fun i σ H' _ ⟨_, _, fx, _⟩ => SqL.of (fx _ _ upd_same rfl (fun z => hlp z.symm))) ?_ ?_⟩
  · rintro i y σ H' hi ⟨v, rfl, fx, hL, Bi, tk⟩
    obtain ⟨x, ex, rfl⟩ : ∃ x, sp.keys[i]? = some x ∧ y = V.int x.key := by
      rw [ens, List.map_map, List.getElem?_map] at hi
      cases e : sp.keys[i]? with
      | none => rw [e] at hi; cases hi
      | some x =>
        rw [e] at hi
        exact ⟨x, rfl, (Option.some.inj hi).symm⟩
    have ei := upK_at (h := h) ex
    have mi : x ∈ upK sp h i := List.mem_of_getElem? ei
    have hv : valV kvs (.inl (x.key : Int)) = some (.ref (Ad x.key)) := Bi.vals x mi
    have hget : DGet H' d (.int x.key) (some (.ref (Ad x.key))) := by
      rw [← hv]
      exact DGet.k (k := Sum.inl (x.key : Int)) Bi.dict
    refine ⟨_, rfl, .inl ⟨rfl, _, SqL.of hL⟩, _, rfl, st, dx, _, rfl, Bi.inst, rfl, _, rfl, st, CS, dx, _, _, rfl, Bi.inst, S.cl, S.npiles, rfl, _, rfl, d, _, rfl, hget, _, rfl,
      st, Ad x.key, sp, h, x, _, rfl, ⟨dx, tv, d, _, _, Bi.inst⟩, Bi.pile x mi, fun b hb => ?_, fun H2 r bu hr0 hr2 pa => ?_⟩
    · rcases hb with rfl | hb
      · exact ⟨_, hL⟩
      · obtain ⟨o, ho⟩ := hav b hb
        exact tk b o ho
    · obtain ⟨⟨dx', v', q', h1, h2, h3, h4⟩, _, _⟩ := Bi.pile x mi
      have hlA : l ≠ Ad x.key := ne_of hL h1 (fun z => nomatch z)
      have hL2 := bu _ _ hL hlA
      have c1 := len_flat sp h (sp.keys.take i)
      have c2 := len_hears sp h x
      have c3 : (sp.keys.take i).length ≤ 10 := by rw [List.length_take]; omega
      refine ⟨l, r, _, _, rfl, rfl, hL2, hr2, sz (by rw [chg_len, chg_len]; omega), ?_⟩
      have B2 := Bi.step ei (key_hears sp h x) bu (pa.keep (av' := fun b => b = l ∨ av b) (fun _ _ z _ => z) (fun _ _ _ z => .inr z))
      simp only [upK_set ex] at B2
      refine ⟨_, rfl, fx.trans ((FraX.of (Fra.but h1 bu)).trans FraX.upd), ?_, B2.keep (fun b o e n => ?_) (fun _ _ _ z => z), ?_⟩
      · rw [upd_same, take_snoc ex, List.flatMap_append, chg_append, List.flatMap_cons, List.flatMap_nil, List.append_nil]
      · rw [upd_ne]
        · exact e
        · rintro rfl
          rw [hL2] at e
          cases e
          exact n _ rfl (.inl rfl)
      · obtain ⟨o', e'⟩ := pa.there
        exact (tk.trans (Trk.but bu e')).trans Trk.upd
  · rintro σ H' ⟨v, rfl, fx, hL, Bn, tk⟩
    have en : (ns.map V.int).length = sp.keys.length := by rw [List.length_map, ens, List.length_map]
    rw [en, List.take_length] at hL
    rw [en, upK_all] at Bn
    refine ⟨_, rfl, ?_⟩
    exact k H' l (fx.fra s1 hl) tk hl hL ⟨dx, tv, d, kvs, ks, Ad, Bn⟩
end
end M

end
section
set_option Elab.async false
set_option linter.all false
set_option maxRecDepth 100000
set_option maxHeartbeats 2000000
namespace M
open PySem PySem.Spec PyProof.Rows L2
open Hs03 (Trig T begun hears keyHears allHear)
/-! ### mathematics -/
theorem nv_ints (l : List Nat) : nv l = (Hs03.ints l).map V.int := by
  simp only [nv, Hs03.ints, List.map_map]
  rfl
theorem nv_chg (cs : List Hs03.Change) : nv (Hs03.changes cs) = V.int cs.length :: chg cs := rfl
theorem hears_mark (s : Hs03.St) (x : Hs03.Key) : keyHears { s with passed := true } .mark x = keyHears s .mark x := by
  unfold keyHears
  cases x.trig with
  | none => rfl
  | some t => rfl
theorem all_mark (s : Hs03.St) : allHear { s with passed := true } .mark = ((Hs03.passes s).1, (Hs03.passes s).2) := by
  simp only [allHear, Hs03.passes, hears_mark]
theorem len_putF (f : Str) (v : V) : ∀ fs : List (Str × V), (putF f v fs).length ≤ fs.length + 1
  | [] => Nat.le_refl _
  | (g, x) :: r => by
    unfold putF
    split
    · rw [List.length_cons, List.length_cons]
      omega
    · have := len_putF f v r
      rw [List.length_cons, List.length_cons]
      omega
section
variable {CS C : Addr} {av av' : Addr → Prop} {H H' : Hp} {st : Addr} {s s' : Hs03.St} {dx : Addr} {tv : V} {d : Addr} {kvs : List (L2.Key × V)} {ks : List Int} {A : Nat → Addr}
theorem StAt.keep (B : StAt CS C av H st s) (k : ∀ b o, H b = some o → (∀ xs, o = .lst xs → ¬ av b) → H' b = some o) (ka : ∀ b o, H b = some o → av' b → av b) : StAt CS C av' H' st s := by
  obtain ⟨dx, tv, d, kvs, ks, A, B⟩ := B
  exact ⟨dx, tv, d, kvs, ks, A, B.keep k ka⟩
theorem StAt.grow {r : Addr} (B : StAt CS C av H st s) (hr : H r = none) (sm : Same H H') : StAt CS C (fun b => b = r ∨ av b) H' st s := by
  obtain ⟨dx, tv, d, kvs, ks, A, B⟩ := B
  exact ⟨dx, tv, d, kvs, ks, A, B.grow hr sm⟩
theorem StAt.len (B : StAt CS C av H st s) : s.keys.length ≤ 10 := by
  obtain ⟨dx, tv, d, kvs, ks, A, B⟩ := B
  exact B.len
/-- the stretch's own fields turn, the rest stays -/
theorem StB.turn (B : StB CS C av H st s dx tv d kvs ks A) (ht : s'.trigger = s.trigger) (hk : s'.keys = s.keys) (bu : But st H H') (hi : H' st = some (.ins CS dx (sf s'.mode (Hs03.flag s'.empties) tv s'.passed d s'.taken s'.left))) : StB CS C av H' st s' dx tv d kvs ks A := by
  refine ⟨hi, ?_, by rw [ht]; exact B.dpt, bu _ _ B.dict (ne_of B.dict B.inst (fun z => nomatch z)), B.keys, by rw [hk]; exact B.perm, by rw [hk]; exact B.vals, by rw [hk]; exact B.inj, ?_, by rw [hk]; exact B.srt, by rw [hk]; exact B.le9⟩
  · rw [ht]
    exact B.trig.keep fun a xs e => bu _ _ e (ne_of e B.inst (fun z => nomatch z))
  · rw [hk]
    intro x hx
    refine (B.pile x hx).keep2 (fun b o e w => bu b o e ?_) (fun _ _ _ z => z)
    obtain ⟨⟨dx', v', q', h1, _⟩, _, _⟩ := B.pile x hx
    rcases w with rfl | ⟨xs, rfl⟩ | ⟨xs, rfl, _⟩
    · exact fun q => ne_of B.inst h1 sf_pf q.symm
    · exact ne_of e B.inst (fun z => nomatch z)
    · exact ne_of e B.inst (fun z => nomatch z)
end
def AvOk (av : Addr → Prop) (H : Hp) : Prop := ∀ b, av b → ∃ o, H b = some o
theorem AvOk.trk {av : Addr → Prop} {H H' : Hp} (a : AvOk av H) (t : Trk H H') : AvOk av H' := fun b z => by
  obtain ⟨o, e⟩ := a b z
  exact t b o e
/-- behind a call on the stretch -/
def Post (CS C : Addr) (av : Addr → Prop) (H : Hp) (st : Addr) (s : Hs03.St) (c : Hs03.Call) (Q : VK) : Prop :=
  ∀ (H' : Hp) (r : Addr), Fra H H' → Trk H H' → H r = none → H' r = some (.lst ((Hs03.step s c).2.map V.int)) → StAt CS C (fun b => b = r ∨ av b) H' st (Hs03.step s c).1 → Q (.ref r) H'
/-- a refusal: a new list of one number -/
theorem Post.refused {CS C : Addr} {av : Addr → Prop} {H : Hp} {st : Addr} {s : Hs03.St} {c : Hs03.Call} {Q : VK} (p : Post CS C av H st s c Q) (B : StAt CS C av H st s) {l : List Int} (e : Hs03.step s c = (s, l)) {r : Addr} (hr : H r = none) : Q (.ref r) (upd H r (.lst (l.map V.int))) := by
  have s1 := same_new hr (.lst (l.map V.int))
  refine p _ r (Fra.of s1) (Trk.same s1) hr ?_ ?_
  · rw [e]
    exact upd_same
  · rw [e]
    exact B.grow hr s1
def spCC : Sp := fun vs H Q _ => ∃ (l : Addr) (cs : List Hs03.Change), vs = [.ref l] ∧ H l = some (.lst (chg cs)) ∧ cs.length ≤ 100000 ∧ ∀ (H' : Hp) (r : Addr), Same H H' → H r = none → H' r = some (.lst (nv (Hs03.changes cs))) → Q (.ref r) H'
def spTicks (CS C : Addr) : Sp := fun vs H Q _ => ∃ (st : Addr) (s : Hs03.St) (n : Nat) (av : Addr → Prop), vs = [.ref st, .int n] ∧ StAt CS C av H st s ∧ AvOk av H ∧ Post CS C av H st s (.ticks n) Q
def spMark (CS C : Addr) : Sp := fun vs H Q _ => ∃ (st : Addr) (s : Hs03.St) (av : Addr → Prop), vs = [.ref st] ∧ StAt CS C av H st s ∧ AvOk av H ∧ Post CS C av H st s .mark Q
def spAnew (CS : Addr) : Sp := fun vs H Q _ => ∃ (st dx : Addr) (m e : Int) (tv : V) (fs : List (Str × V)), vs = [.ref st, .int m, .int e, tv] ∧ H st = some (.ins CS dx fs) ∧ (fs = [] ∨ ∃ m' e' tv' b d' k' l', fs = sf m' e' tv' b d' k' l') ∧
  ∀ (H' : Hp) (d : Addr), But st H H' → H d = none → H' d = some (.dK []) → H' st = some (.ins CS dx (sf m e tv false d 0 0)) → Q .non H'
def spBegin (K : PySem.W.Frag) (CS C : Addr) : Sp := fun vs H Q _ => ∃ (st a : Addr) (s : Hs03.St) (m e : Nat) (l : List Nat) (av : Addr → Prop), vs = [.ref st, .int m, .int e, .ref a] ∧ SqL K H a (nv l) ∧ StAt CS C av H st s ∧ AvOk av H ∧ Post CS C av H st s (.begin_ m e l) Q
section
variable {P : Program} {w : World} {K : PySem.W.Frag} {mg : Str → Option Value} {base : Heap} {CS C : Addr}
theorem sc_cc : FnScope ["changes"] ["changes"] (defScope s_count_changes) := ⟨rfl, rfl, rfl, by decide +kernel, rfl, by decide +kernel, by decide +kernel⟩
theorem ok_count_changes (D : DefAt K mg "count_changes" s_count_changes ["changes"]) (T : Cs mg) (S : STx K mg CS) : Cal P w K mg base 1 "count_changes" ["changes"] spCC := by
  obtain ⟨f, fd, F, b, m⟩ := D
  refine ⟨f, fd, F.ok sc_cc (fun vs H Q E h => ?_) (fun cdv A outer s H vs Q E hr h => ?_), b, F.kp, m⟩
  · obtain ⟨l, cs, rfl, _⟩ := h
    rfl
  obtain ⟨l, cs, rfl, hl, hc, k⟩ := h
  refine ⟨_, pss_one (ps_ret (pe_op op_cat (pe_lst (pa_cons (pe_op op_fdiv (pe_len T.len (pv 0)) (pg_ci S.numC)) pa_nil)) (pv 0))), ?_⟩
  have e6 := chg_len cs
  refine ⟨_, rfl, l, _, rfl, .inl (SqL.of hl), _, _, rfl, rfl, ⟨by decide, by decide⟩, sz, fun p hp => ⟨_, rfl, p, l, _, _, rfl, rfl, upd_same, same_new hp _ _ _ hl, sz (by rw [List.length_singleton]; omega), fun r hr' => ?_⟩⟩
  have ed : (((chg cs).length : Nat) : Int) / 6 = (cs.length : Int) := by rw [e6]; omega
  refine k _ r ((same_new hp _).trans (same_new hr' _)) ((same_new hp _).free hr') ?_
  rw [upd_same, nv_chg, ← ed]
  rfl
theorem sc_tk : FnScope ["self", "ticks", "changes", "tick"] ["self", "ticks"] (defScope s_Stretch_pass_ticks) := ⟨rfl, rfl, rfl, by decide +kernel, rfl, by decide +kernel, by decide +kernel⟩
theorem ok_pass_ticks (D : MDef K CS "pass_ticks" "Stretch.pass_ticks" s_Stretch_pass_ticks ["self", "ticks"]) (T : Cs mg) (S : STx K mg CS) (AH : MCal P w K mg base 24 CS "let_all_hear" ["self", "heard"] (spAH CS C)) (CC : Cal P w K mg base 1 "count_changes" ["changes"] spCC) :
    MCal P w K mg base 25 CS "pass_ticks" ["self", "ticks"] (spTicks CS C) := by
  obtain ⟨f, fd, F, b, m⟩ := D
  refine ⟨f, fd, F.ok sc_tk (fun vs H Q E h => ?_) (fun cdv A outer s H vs Q E hr h => ?_), b, m⟩
  · obtain ⟨st, s, n, av, rfl, _⟩ := h
    rfl
  obtain ⟨st, sp, n, av, rfl, B, hav, k⟩ := h
  refine ⟨_, pss_cons (ps_if (pt_cmp (pc_gt (pv 1) (pg_ci S.mostT))) (pss_one (ps_ret (pe_lst (pa_cons (pe_un un_neg pe_int) pa_nil)))) pss_nil)
    (pss_cons (ps_set (i := 2) sc_tk.nd rfl (Or.inl rfl) (pe_lst pa_nil))
    (pss_cons (ps_for PassesOwn.never rfl (pi_range1 (by rfl) S.range (pa_cons (pv 1) pa_nil)) (pg_name (i := 3) sc_tk.nd rfl (Or.inl rfl))
      (pss_one (ps_expr (pe_bm PySem.F.plainAttrs_list PySem.F.slot_list_extend PySem.F.type_list_extend mt_extend (pv 2) (pa_cons (pe_mcal (pv 0) S.cl AH hr (pa_cons (pg_ci T.tick) pa_nil)) pa_nil)))))
    (pss_one (ps_ret (pe_cal CC (hr.mono (show 1 ≤ 24 by decide)) (pa_cons (pv 2) pa_nil)))))), ?_⟩
  refine ⟨_, rfl, _, _, rfl, rfl, _, rfl, if2 (fun c => ?_) (fun c => ?_)⟩
  · refine ⟨_, rfl, sz, fun r hr' => k.refused B (l := [-1]) ?_ hr'⟩
    simp only [Hs03.step]
    rw [if_pos (by omega)]
  have es : Hs03.step sp (.ticks n) = ((Hs03.ticks n sp).1, Hs03.ints (Hs03.changes (Hs03.ticks n sp).2)) := by
    simp only [Hs03.step]
    rw [if_neg (by omega)]
  refine ⟨sz, fun l hl => ?_⟩
  have s0 := same_new hl (.lst [])
  refine ⟨_, rfl, n, rfl, by omega, by omega, for_range (n := ((n : Int)).toNat) (fun i σ H' => ∃ (v : Option V) (si : Hs03.St) (ci : List Hs03.Change), σ = [some (.ref st), some (.int n), some (.ref l), v] ∧ FraX l (upd H l (.lst [])) H' ∧ Trk H H' ∧
      H' l = some (.lst (chg ci)) ∧ ci.length ≤ 20 * i ∧ StAt CS C (fun b => b = l ∨ av b) H' st si ∧ i ≤ n ∧ (Hs03.ticks (n - i) si).1 = (Hs03.ticks n sp).1 ∧ ci ++ (Hs03.ticks (n - i) si).2 = (Hs03.ticks n sp).2)
    ⟨none, sp, [], rfl, fun b o e _ _ => e, Trk.same s0, upd_same, Nat.zero_le _, B.grow hl s0, Nat.zero_le _, rfl, rfl⟩ ?_ ?_⟩
  · rintro i σ H' hi ⟨v, si, ci, rfl, fx, tk, hL, hc, Bi, hin, e1, e2⟩
    rw [Int.toNat_natCast] at hi
    have en : n - i = (n - (i + 1)) + 1 := by omega
    have h10 := Bi.len
    have hlen : (allHear si .tick).2.length ≤ 20 := Nat.le_trans (len_flat si .tick si.keys) (by omega)
    obtain ⟨dx, tv, d, kvs, ks, Ad, Bi⟩ := Bi
    refine ⟨_, rfl, .inl ⟨rfl, _, SqL.of hL⟩, _, rfl, st, dx, _, rfl, Bi.inst, rfl, st, si, .tick, _, rfl, ⟨dx, tv, d, kvs, ks, Ad, Bi⟩, ?_, fun H2 r fr t2 hr0 hr2 B2 => ?_⟩
    · rintro b (rfl | hb)
      · exact ⟨_, hL⟩
      · exact hav.trk tk b hb
    · have hL2 := fr _ _ hL rfl
      refine ⟨l, r, _, _, rfl, rfl, hL2, hr2, sz (by rw [chg_len, chg_len]; omega), ?_⟩
      refine ⟨_, (allHear si .tick).1, ci ++ (allHear si .tick).2, rfl, fx.trans ((FraX.of fr).trans FraX.upd), (tk.trans t2).trans Trk.upd, by rw [upd_same, chg_append], by rw [List.length_append]; omega, B2.keep (fun b o e z => ?_) (fun _ _ _ z => .inr z), by omega, ?_, ?_⟩
      · rw [upd_ne]
        · exact e
        · rintro rfl
          rw [hL2] at e
          cases e
          exact z _ rfl (.inr (.inl rfl))
      · rw [en] at e1
        exact e1
      · rw [en] at e2
        rw [List.append_assoc]
        exact e2
  · rintro σ H' ⟨v, si, ci, rfl, fx, tk, hL, hc, Bi, hin, e1, e2⟩
    rw [Int.toNat_natCast] at hc e1 e2
    rw [Nat.sub_self] at e1 e2
    have e1 : si = (Hs03.ticks n sp).1 := e1
    have e2 : ci = (Hs03.ticks n sp).2 := by rw [← e2]; exact (List.append_nil ci).symm
    refine ⟨_, rfl, l, ci, rfl, hL, by omega, fun H2 r s2 hr0 hr2 => ?_⟩
    have hlr : H r = none := by
      cases q : H r with
      | none => rfl
      | some o =>
        obtain ⟨o', z⟩ := tk r o q
        rw [z] at hr0
        cases hr0
    refine k H2 r ((fx.fra s0 hl).trans (Fra.of s2)) (tk.trans (Trk.same s2)) hlr ?_ ?_
    · rw [es, hr2, e2, nv_ints]
    · rw [es, ← e1]
      exact (Bi.keep (av' := av) (fun b o e _ => e) (fun _ _ _ z => .inr z)).grow hr0 s2
theorem sc_mk : FnScope ["self"] ["self"] (defScope s_Stretch_pass_mark) := ⟨rfl, rfl, rfl, by decide +kernel, rfl, by decide +kernel, by decide +kernel⟩
theorem ok_pass_mark (D : MDef K CS "pass_mark" "Stretch.pass_mark" s_Stretch_pass_mark ["self"]) (T : Cs mg) (S : STx K mg CS) (AH : MCal P w K mg base 24 CS "let_all_hear" ["self", "heard"] (spAH CS C)) (CC : Cal P w K mg base 1 "count_changes" ["changes"] spCC) :
    MCal P w K mg base 25 CS "pass_mark" ["self"] (spMark CS C) := by
  obtain ⟨f, fd, F, b, m⟩ := D
  refine ⟨f, fd, F.ok sc_mk (fun vs H Q E h => ?_) (fun cdv A outer s H vs Q E hr h => ?_), b, m⟩
  · obtain ⟨st, s, av, rfl, _⟩ := h
    rfl
  obtain ⟨st, sp, av, rfl, B, hav, k⟩ := h
  refine ⟨_, pss_cons (ps_if (pt_val (pe_fld (pv 0) rfl)) (pss_one (ps_ret (pe_lst (pa_cons (pe_un un_neg pe_int) pa_nil)))) pss_nil)
    (pss_cons (ps_fld (pv 0) pe_bl rfl)
    (pss_one (ps_ret (pe_cal CC (hr.mono (show 1 ≤ 24 by decide)) (pa_cons (pe_mcal (pv 0) S.cl AH hr (pa_cons (pg_ci T.mark) pa_nil)) pa_nil))))), ?_⟩
  obtain ⟨dx, tv, d, kvs, ks, Ad, B⟩ := B
  refine ⟨_, rfl, st, CS, dx, _, _, rfl, B.inst, S.cl, S.nmp, rfl, _, rfl, ifB (fun c => ?_) (fun c => ?_)⟩
  · refine ⟨_, rfl, sz, fun r hr' => k.refused ⟨dx, tv, d, kvs, ks, Ad, B⟩ (l := [-4]) ?_ hr'⟩
    simp only [Hs03.step, c, if_true]
  have es : Hs03.step sp .mark = ((Hs03.passes sp).1, Hs03.ints (Hs03.changes (Hs03.passes sp).2)) := by
    simp only [Hs03.step, c, Bool.false_eq_true, if_false]
  refine ⟨_, rfl, st, CS, dx, _, rfl, B.inst, S.cl, S.nmp, l9 7 rfl, ?_⟩
  have B1 : StB CS C av (upd H st (.ins CS dx (putF "mark_passed" (.bl true) (sf sp.mode (Hs03.flag sp.empties) tv sp.passed d sp.taken sp.left)))) st { sp with passed := true } dx tv d kvs ks Ad := B.turn rfl rfl But.upd upd_same
  have f1 : Fra H _ := Fra.but B.inst (But.upd (o := .ins CS dx (putF "mark_passed" (.bl true) (sf sp.mode (Hs03.flag sp.empties) tv sp.passed d sp.taken sp.left))))
  have t1 : Trk H _ := Trk.upd (a := st) (o := .ins CS dx (putF "mark_passed" (.bl true) (sf sp.mode (Hs03.flag sp.empties) tv sp.passed d sp.taken sp.left)))
  have h10 := B.len
  refine ⟨_, rfl, st, dx, _, rfl, upd_same, rfl, st, { sp with passed := true }, .mark, av, rfl, ⟨dx, tv, d, kvs, ks, Ad, B1⟩, hav.trk t1, fun H2 r fr t2 hr0 hr2 B2 => ?_⟩
  rw [all_mark] at hr2 B2
  have hlen : (Hs03.passes sp).2.length ≤ 20 := Nat.le_trans (len_flat sp .mark sp.keys) (by omega)
  refine ⟨r, (Hs03.passes sp).2, rfl, hr2, by omega, fun H3 r3 s3 hr3 e3 => ?_⟩
  have t3 := t1.trans (t2.trans (Trk.same s3))
  have hn : H r3 = none := by
    cases q : H r3 with
    | none => rfl
    | some o =>
      obtain ⟨o', z⟩ := (t1.trans t2) r3 o q
      rw [z] at hr3
      cases hr3
  refine k H3 r3 (f1.trans (fr.trans (Fra.of s3))) t3 hn ?_ ?_
  · rw [es, e3, nv_ints]
  · rw [es]
    exact (B2.keep (av' := av) (fun b o e _ => e) (fun _ _ _ z => .inr z)).grow hr3 s3
theorem sc_an : FnScope ["self", "mode", "empties", "trigger"] ["self", "mode", "empties", "trigger"] (defScope s_Stretch_start_anew) := ⟨rfl, rfl, rfl, by decide +kernel, rfl, by decide +kernel, by decide +kernel⟩
theorem ok_start_anew (D : MDef K CS "start_anew" "Stretch.start_anew" s_Stretch_start_anew ["self", "mode", "empties", "trigger"]) (S : STx K mg CS) : MCal P w K mg base 1 CS "start_anew" ["self", "mode", "empties", "trigger"] (spAnew CS) := by
  obtain ⟨f, fd, F, b, m⟩ := D
  refine ⟨f, fd, F.ok sc_an (fun vs H Q E h => ?_) (fun cdv A outer s H vs Q E hr h => ?_), b, m⟩
  · obtain ⟨st, dx, m, e, tv, fs, rfl, _⟩ := h
    rfl
  obtain ⟨st, dx, m, e, tv, fs, rfl, hi, hf, k⟩ := h
  refine ⟨_, pss_cons (ps_fld (pv 0) (pv 1) rfl) (pss_cons (ps_fld (pv 0) (pv 2) rfl) (pss_cons (ps_fld (pv 0) (pv 3) rfl) (pss_cons (ps_fld (pv 0) pe_bl rfl) (pss_cons (ps_fld (pv 0) pe_dnewK rfl) (pss_cons (ps_fld (pv 0) pe_int rfl) (pss_one (ps_fld (pv 0) pe_int rfl))))))), ?_⟩
  have hl : fs.length ≤ 7 := by
    rcases hf with rfl | ⟨m', e', tv', b, d', k', l', rfl⟩
    · exact Nat.zero_le _
    · exact Nat.le_refl 7
  have g1 := len_putF "mode" (.int m) fs
  have g2 := len_putF "empties" (.int e) (putF "mode" (.int m) fs)
  have g3 := len_putF "trigger" tv (putF "empties" (.int e) (putF "mode" (.int m) fs))
  have g4 := len_putF "mark_passed" (.bl false) (putF "trigger" tv (putF "empties" (.int e) (putF "mode" (.int m) fs)))
  refine ⟨_, rfl, _, rfl, st, CS, dx, _, rfl, hi, S.cl, S.nmode, by omega, ?_⟩
  refine ⟨_, rfl, _, rfl, st, CS, dx, _, rfl, upd_same, S.cl, S.nemp, by omega, ?_⟩
  refine ⟨_, rfl, _, rfl, st, CS, dx, _, rfl, upd_same, S.cl, S.ntrig, by omega, ?_⟩
  refine ⟨_, rfl, st, CS, dx, _, rfl, upd_same, S.cl, S.nmp, by omega, fun d hd => ?_⟩
  have s1 := same_new hd (.dK [])
  have g5 := len_putF "piles" (.ref d) (putF "mark_passed" (.bl false) (putF "trigger" tv (putF "empties" (.int e) (putF "mode" (.int m) fs))))
  have g6 := len_putF "taken" (.int 0) (putF "piles" (.ref d) (putF "mark_passed" (.bl false) (putF "trigger" tv (putF "empties" (.int e) (putF "mode" (.int m) fs)))))
  refine ⟨_, rfl, st, CS, dx, _, rfl, s1 _ _ upd_same, S.cl, S.npiles, by omega, ?_⟩
  refine ⟨_, rfl, st, CS, dx, _, rfl, upd_same, S.cl, S.ntaken, by omega, ?_⟩
  refine ⟨_, rfl, st, CS, dx, _, rfl, upd_same, S.cl, S.nleft, by omega, ?_⟩
  have hds : d ≠ st := fun z => by rw [z, upd_same] at hd; cases hd
  have ef : putF "not_taken" (.int 0) (putF "taken" (.int 0) (putF "piles" (.ref d) (putF "mark_passed" (.bl false) (putF "trigger" tv (putF "empties" (.int e) (putF "mode" (.int m) fs)))))) = sf m e tv false d 0 0 := by
    rcases hf with rfl | ⟨m', e', tv', b, d', k', l', rfl⟩ <;> rfl
  simp only [upd_upd] at hd s1 ⊢
  refine k _ d ((But.upd.trans (But.of s1)).trans But.upd) ?_ ?_ ?_
  · rw [upd_ne hds] at hd
    exact hd
  · rw [upd_ne hds]
    exact upd_same
  · rw [upd_same, ef]
/-- a stretch that has just begun -/
theorem St_fresh {av : Addr → Prop} {H : Hp} {st dx d : Addr} {tv : V} {m : Nat} {e : Bool} {t : T} (hi : H st = some (.ins CS dx (sf m (Hs03.flag e) tv false d 0 0))) (hd : H d = some (.dK [])) (ht : TrAt H tv (begun t)) (hp : depT t ≤ 10) : StAt CS C av H st (Hs03.fresh m e t) :=
  ⟨dx, tv, d, [], [], fun _ => 0, hi, ht, hp, hd, rfl, .nil, fun x hx => absurd hx (by simp [Hs03.fresh]), fun x hx => absurd hx (by simp [Hs03.fresh]), fun x hx => absurd hx (by simp [Hs03.fresh]), .nil, fun x hx => absurd hx (by simp [Hs03.fresh])⟩
theorem sc_be : FnScope ["self", "mode", "empties", "numbers", "trigger"] ["self", "mode", "empties", "numbers"] (defScope s_Stretch_begin) := ⟨rfl, rfl, rfl, by decide +kernel, rfl, by decide +kernel, by decide +kernel⟩
theorem ok_begin (D : MDef K CS "begin" "Stretch.begin" s_Stretch_begin ["self", "mode", "empties", "numbers"]) (T : Cs mg) (S : STx K mg CS) (PT : PTx K mg C) (RT : Cal P w K mg base 22 "read_trigger" ["numbers"] (spRT K)) (AN : MCal P w K mg base 1 CS "start_anew" ["self", "mode", "empties", "trigger"] (spAnew CS)) :
    MCal P w K mg base 23 CS "begin" ["self", "mode", "empties", "numbers"] (spBegin K CS C) := by
  obtain ⟨f, fd, F, b, m⟩ := D
  refine ⟨f, fd, F.ok sc_be (fun vs H Q E h => ?_) (fun cdv A outer s H vs Q E hr h => ?_), b, m⟩
  · obtain ⟨st, a, s, m, e, l, av, rfl, _⟩ := h
    rfl
  obtain ⟨st, a, sp, md, em, l, av, rfl, hS, B, hav, k⟩ := h
  refine ⟨_, pss_cons (ps_if (pt_cmp (pc_gt (pv 1) (pg_ci PT.allBack))) (pss_one (ps_ret (pe_lst (pa_cons (pe_un un_neg pe_int) pa_nil)))) pss_nil)
    (pss_cons (ps_if (pt_cmp (pc_gt (pv 2) pe_int)) (pss_one (ps_ret (pe_lst (pa_cons (pe_un un_neg pe_int) pa_nil)))) pss_nil)
    (pss_cons (ps_set (i := 4) sc_be.nd rfl (Or.inl rfl) (pe_cal RT hr (pa_cons (pv 3) pa_nil)))
    (pss_cons (ps_if (pt_cmp (pc_isN (pv 4))) (pss_one (ps_ret (pe_lst (pa_cons (pe_un un_neg pe_int) pa_nil)))) pss_nil)
    (pss_cons (ps_expr (pe_mcal (pv 0) S.cl AN (hr.mono (show 1 ≤ 22 by decide)) (pa_cons (pv 1) (pa_cons (pv 2) (pa_cons (pv 4) pa_nil)))))
    (pss_one (ps_ret (pe_lst (pa_cons pe_int pa_nil)))))))), ?_⟩
  refine ⟨_, rfl, _, _, rfl, rfl, _, rfl, if2 (fun c1 => ?_) (fun c1 => ?_)⟩
  · refine ⟨_, rfl, sz, fun r hr' => k.refused B (l := [-1]) ?_ hr'⟩
    simp only [Hs03.step]
    rw [if_pos (by omega)]
  refine ⟨_, rfl, _, _, rfl, rfl, _, rfl, if2 (fun c2 => ?_) (fun c2 => ?_)⟩
  · refine ⟨_, rfl, sz, fun r hr' => k.refused B (l := [-2]) ?_ hr'⟩
    simp only [Hs03.step]
    rw [if_neg (by omega), if_pos (by omega)]
  refine ⟨_, rfl, a, l, rfl, hS, fun v H1 s1 hv => ?_⟩
  have B1 := B.keep (av' := av) (fun b o e _ => s1 b o e) (fun _ _ _ z => z)
  cases et : Hs03.trigger? l with
  | none =>
    rw [et] at hv
    obtain rfl : v = .non := hv
    have es : Hs03.step sp (.begin_ md em l) = (sp, [-3]) := by
      simp only [Hs03.step, et]
      rw [if_neg (by omega), if_neg (by omega)]
    refine ⟨_, rfl, _, rfl, ifT rfl ⟨_, rfl, sz, fun r hr' => ?_⟩⟩
    have s2 := same_new hr' (.lst [.int (-3)])
    refine k _ r ((Fra.of s1).trans (Fra.of s2)) ((Trk.same s1).trans (Trk.same s2)) (s1.free hr') ?_ ?_
    · rw [es]
      exact upd_same
    · rw [es]
      exact B1.grow hr' s2
  | some t =>
    rw [et] at hv
    obtain ⟨ht, hp⟩ := hv
    have es : Hs03.step sp (.begin_ md em l) = (Hs03.fresh md (em == 1) t, [0]) := by
      simp only [Hs03.step, et]
      rw [if_neg (by omega), if_neg (by omega)]
    refine ⟨_, rfl, _, rfl, ifF ht.nn ?_⟩
    obtain ⟨dx, tv, d, kvs, ks, Ad, B1⟩ := B1
    refine ⟨_, rfl, st, dx, _, rfl, B1.inst, rfl, _, rfl, _, rfl, _, rfl, st, dx, md, em, v, _, rfl, B1.inst, .inr ⟨_, _, _, _, _, _, _, rfl⟩, fun H2 d2 b2 hd0 hd2 hi2 => ?_⟩
    refine ⟨sz, fun r hr' => ?_⟩
    have s3 := same_new hr' (.lst [.int 0])
    have fr := Fra.but B1.inst b2
    have tk := (Trk.same s1).trans (Trk.but b2 hi2)
    have hn : H r = none := by
      cases q : H r with
      | none => rfl
      | some o =>
        obtain ⟨o', z⟩ := tk r o q
        rw [z] at hr'
        cases hr'
    refine k _ r (((Fra.of s1).trans fr).trans (Fra.of s3)) (tk.trans (Trk.same s3)) hn ?_ ?_
    · rw [es]
      exact upd_same
    · rw [es]
      have ef : ((Hs03.flag (em == 1) : Nat) : Int) = (em : Int) := by
        have : em = 0 ∨ em = 1 := by omega
        rcases this with rfl | rfl <;> rfl
      refine St_fresh (dx := dx) (tv := v) (d := d2) (by rw [ef]; exact s3 _ _ hi2) (s3 _ _ hd2) (TrAt.same s3 ?_) hp
      exact ht.keep fun a xs e => b2 _ _ e (ne_of e B1.inst (fun z => nomatch z))
def spSInit (CS C : Addr) : Sp := fun vs H Q _ => ∃ (st dx : Addr), vs = [.ref st] ∧ H st = some (.ins CS dx []) ∧ ∀ H' : Hp, But st H H' → StAt CS C (fun b => ∃ o, H b = some o) H' st Hs03.init → Q .non H'
theorem sc_si : FnScope ["self"] ["self"] (defScope s_Stretch_init) := ⟨rfl, rfl, rfl, by decide +kernel, rfl, by decide +kernel, by decide +kernel⟩
theorem ok_sinit {f : Addr} {fd : FuncData} (F : Fun K "__init__" "Stretch.__init__" s_Stretch_init f fd) (T : Cs mg) (S : STx K mg CS) (PT : PTx K mg C) (RT : Cal P w K mg base 22 "read_trigger" ["numbers"] (spRT K)) (AN : MCal P w K mg base 1 CS "start_anew" ["self", "mode", "empties", "trigger"] (spAnew CS)) :
    FnOk P w K mg base CX0 23 f fd ["self"] (spSInit CS C) := by
  refine F.ok sc_si (fun vs H Q E h => ?_) (fun cdv A outer s H vs Q E hr h => ?_)
  · obtain ⟨st, dx, rfl, _⟩ := h
    rfl
  obtain ⟨st, dx, rfl, hi, k⟩ := h
  refine ⟨_, pss_one (ps_expr (pe_mcal (pv 0) S.cl AN (hr.mono (show 1 ≤ 22 by decide)) (pa_cons (pg_ci PT.newOnes) (pa_cons pe_int (pa_cons (pe_cal RT hr (pa_cons (pe_lst (pa_cons (pg_ci T.again) (pa_cons (pg_ci T.nth) (pa_cons pe_int pa_nil)))) pa_nil)) pa_nil))))), ?_⟩
  refine ⟨_, rfl, st, dx, _, rfl, hi, rfl, sz, fun l hl => ?_⟩
  have s0 := same_new hl (.lst [.int 4, .int 0, .int 2])
  refine ⟨l, [4, 0, 2], rfl, SqL.of upd_same, fun v H1 s1 hv => ?_⟩
  have et : Hs03.trigger? [4, 0, 2] = some (.again (.count 2)) := by decide +kernel
  rw [et] at hv
  obtain ⟨ht, hp⟩ := hv
  have s2 := s0.trans s1
  refine ⟨st, dx, 0, 0, v, [], rfl, s2 _ _ hi, .inl rfl, fun H2 d2 b2 hd0 hd2 hi2 => ?_⟩
  refine k H2 ((But.of s2).trans b2) (St_fresh (dx := dx) (tv := v) (d := d2) hi2 hd2 ?_ hp)
  exact ht.keep fun a xs e => b2 _ _ e (ne_of e (s2 _ _ hi) (fun z => nomatch z))
end
end M

end
section
set_option Elab.async false
set_option linter.all false
set_option maxRecDepth 100000
set_option maxHeartbeats 2000000
namespace M
open PySem PySem.Spec PyProof.Rows L2
open Hs03 (Trig T begun hears keyHears allHear put keyOf blank)
abbrev Srt (l : List Hs03.Key) : Prop := l.Pairwise (fun a b => a.key < b.key)
/-! ### keys: mathematics -/
theorem put_mem (y : Hs03.Key) : ∀ (l : List Hs03.Key), (∀ x ∈ l, x.key ≠ y.key) → ∀ z, z ∈ put y l ↔ z = y ∨ z ∈ l
  | [], _, z => by simp [put]
  | a :: r, h, z => by
    have ha := h a (List.mem_cons_self ..)
    have ih := put_mem y r (fun x hx => h x (List.mem_cons_of_mem _ hx)) z
    unfold put
    split
    · simp
    · rw [if_neg (fun q => ha q.symm)]
      simp only [List.mem_cons, ih]
      constructor
      · rintro (q | q | q)
        · exact .inr (.inl q)
        · exact .inl q
        · exact .inr (.inr q)
      · rintro (q | q | q)
        · exact .inr (.inl q)
        · exact .inl q
        · exact .inr (.inr q)
theorem put_perm (y : Hs03.Key) : ∀ (l : List Hs03.Key), (∀ x ∈ l, x.key ≠ y.key) → (put y l).Perm (y :: l)
  | [], _ => .refl _
  | a :: r, h => by
    have ha := h a (List.mem_cons_self ..)
    have ih := put_perm y r (fun x hx => h x (List.mem_cons_of_mem _ hx))
    unfold put
    split
    · exact .refl _
    · rw [if_neg (fun q => ha q.symm)]
      exact (ih.cons a).trans (.swap y a r)
theorem put_srt (y : Hs03.Key) : ∀ (l : List Hs03.Key), Srt l → (∀ x ∈ l, x.key ≠ y.key) → Srt (put y l)
  | [], _, _ => by simp [put]
  | a :: r, hs, h => by
    have ha := h a (List.mem_cons_self ..)
    obtain ⟨h1, h2⟩ := List.pairwise_cons.mp hs
    have ih := put_srt y r h2 (fun x hx => h x (List.mem_cons_of_mem _ hx))
    unfold put
    split
    · rename_i q
      refine List.pairwise_cons.mpr ⟨fun z hz => ?_, hs⟩
      rcases List.mem_cons.mp hz with rfl | hz
      · exact q
      · exact Nat.lt_trans q (h1 z hz)
    · rename_i q
      rw [if_neg (fun z => ha z.symm)]
      refine List.pairwise_cons.mpr ⟨fun z hz => ?_, ih⟩
      rcases (put_mem y r (fun x hx => h x (List.mem_cons_of_mem _ hx)) z).mp hz with rfl | hz
      · omega
      · exact h1 z hz
theorem put_set (y : Hs03.Key) : ∀ (l : List Hs03.Key) (i : Nat) (x : Hs03.Key), Srt l → l[i]? = some x → y.key = x.key → put y l = l.set i y
  | [], i, x, _, e, _ => by simp at e
  | a :: r, 0, x, _, e, hk => by
    obtain rfl : a = x := Option.some.inj e
    unfold put
    rw [if_neg (by omega), if_pos hk]
    rfl
  | a :: r, i + 1, x, hs, e, hk => by
    obtain ⟨h1, h2⟩ := List.pairwise_cons.mp hs
    have hx := h1 x (List.mem_of_getElem? (show r[i]? = some x from e))
    unfold put
    rw [if_neg (by omega), if_neg (by omega), put_set y r i x h2 e hk]
    rfl
theorem put_put (x y : Hs03.Key) : ∀ (l : List Hs03.Key), y.key = x.key → put y (put x l) = put y l
  | [], h => by
    unfold put
    simp [put, h]
  | a :: r, h => by
    have ih := put_put x y r h
    rw [show put x (a :: r) = if x.key < a.key then x :: a :: r else if x.key = a.key then x :: r else a :: put x r from rfl,
      show put y (a :: r) = if y.key < a.key then y :: a :: r else if y.key = a.key then y :: r else a :: put y r from rfl, h]
    by_cases c1 : x.key < a.key
    · rw [if_pos c1, if_pos c1]
      show (if y.key < x.key then _ else if y.key = x.key then y :: (a :: r) else _) = _
      rw [if_neg (by omega), if_pos h]
    · rw [if_neg c1, if_neg c1]
      by_cases c2 : x.key = a.key
      · rw [if_pos c2, if_pos c2]
        show (if y.key < x.key then _ else if y.key = x.key then y :: r else _) = _
        rw [if_neg (by omega), if_pos h]
      · rw [if_neg c2, if_neg c2]
        show (if y.key < a.key then _ else if y.key = a.key then _ else a :: put y (put x r)) = _
        rw [if_neg (by omega), if_neg (by omega), ih]
theorem keyOf_some {s : Hs03.St} {k : Nat} {x : Hs03.Key} (h : keyOf s k = some x) : ∃ i : Nat, s.keys[i]? = some x ∧ x.key = k := by
  unfold keyOf at h
  obtain ⟨h1, h2⟩ := List.find?_eq_some_iff_append.mp h
  obtain ⟨as, bs, e, _⟩ := h2
  refine ⟨as.length, ?_, by simpa using h1⟩
  rw [e]
  simp
theorem keyOf_none {s : Hs03.St} {k : Nat} (h : keyOf s k = none) : ∀ x ∈ s.keys, x.key ≠ k := fun x hx e => by
  unfold keyOf at h
  have := List.find?_eq_none.mp h x hx
  simp [e] at this
theorem keyOf_of {s : Hs03.St} {k : Nat} {x : Hs03.Key} (hs : Srt s.keys) (hx : x ∈ s.keys) (e : x.key = k) : keyOf s k = some x := by
  cases q : keyOf s k with
  | none => exact absurd e (keyOf_none q x hx)
  | some y =>
    obtain ⟨i, h1, h2⟩ := keyOf_some q
    obtain ⟨j, h3⟩ := List.mem_iff_getElem?.mp hx
    obtain ⟨hi, e1⟩ := List.getElem?_eq_some_iff.mp h1
    obtain ⟨hj, e2⟩ := List.getElem?_eq_some_iff.mp h3
    have pw := List.pairwise_iff_getElem.mp hs
    rcases Nat.lt_trichotomy i j with z | z | z
    · have := pw i j hi hj z
      rw [e1, e2] at this
      omega
    · subst z
      rw [e1] at e2
      rw [e2]
    · have := pw j i hj hi z
      rw [e1, e2] at this
      omega
section
variable {CS C : Addr} {av av' : Addr → Prop} {H H2 : Hp} {st : Addr} {s s' : Hs03.St} {dx : Addr} {tv : V} {d : Addr} {kvs : List (L2.Key × V)} {ks : List Int} {A : Nat → Addr}
theorem StB.val_none (B : StB CS C av H st s dx tv d kvs ks A) {k : Nat} (h : ∀ x ∈ s.keys, x.key ≠ k) : valV kvs (.inl (k : Int)) = none := by
  cases q : valV kvs (.inl (k : Int)) with
  | none => rfl
  | some v =>
    have m := valV_in q
    rw [B.keys] at m
    obtain ⟨z, hz, e⟩ := List.mem_map.mp m
    have e : z = (k : Int) := Sum.inl.inj e
    subst e
    obtain ⟨x, hx, e⟩ := List.mem_map.mp (B.perm.mem_iff.mp hz)
    exact absurd (by omega) (h x hx)
theorem StB.insert {p q dp : Addr} {k : Nat} (B : StB CS C av H st s dx tv d kvs ks A) (hav : AvOk av H) (hk : ∀ x ∈ s.keys, x.key ≠ k) (h9 : k ≤ 9) (sm : Same H H2) (hp : H2 p = some (.ins C dp (pf k tv 0 0 0 0 0 q))) (hq : H2 q = some (.lst [])) (np : H p = none) (nq : H q = none) :
    StB CS C av (upd H2 d (.dK (putK kvs (.inl (k : Int)) (.ref p)))) st { s with keys := put (blank s k) s.keys } dx tv d (putK kvs (.inl (k : Int)) (.ref p)) (ks ++ [(k : Int)]) (fun n => if n = k then p else A n) := by
  have hb : ∀ x ∈ s.keys, x.key ≠ (blank s k).key := hk
  have mem := put_mem (blank s k) s.keys hb
  have vn := B.val_none hk
  have hd2 := sm _ _ B.dict
  have nd : ∀ b o, H2 b = some o → (∀ kv, o ≠ .dK kv) → (upd H2 d (.dK (putK kvs (.inl (k : Int)) (.ref p)))) b = some o := fun b o e n => by
    rw [upd_ne (ne_of e hd2 (n _))]
    exact e
  refine ⟨nd _ _ (sm _ _ B.inst) (fun _ z => nomatch z), (B.trig.same sm).keep (fun a xs e => nd _ _ e (fun _ z => nomatch z)), B.dpt, upd_same, ?_, ?_, fun x hx => ?_, fun x hx y hy e => ?_, fun x hx => ?_, put_srt _ _ B.srt hb, fun x hx => ?_⟩
  · rw [putK_new _ vn, List.map_append, B.keys, List.map_append]
    rfl
  · have h1 := (put_perm (blank s k) s.keys hb).map (fun x => (x.key : Int))
    refine List.Perm.trans ?_ h1.symm
    refine (List.perm_append_comm (l₁ := ks) (l₂ := [(k : Int)])).trans ?_
    exact B.perm.cons _
  · rw [valV_put]
    rcases (mem x).mp hx with rfl | hx
    · show (if (Sum.inl (k : Int) : L2.Key) = Sum.inl (k : Int) then _ else _) = some (V.ref (if k = k then p else _))
      rw [if_pos rfl, if_pos rfl]
    · rw [if_neg (fun z => hk x hx (by have := Sum.inl.inj z; omega)), if_neg (hk x hx)]
      exact B.vals x hx
  · have tr : ∀ z, z ∈ s.keys → A z.key ≠ p := fun z hz e => by
      obtain ⟨o, ho⟩ := (B.pile z hz).there
      rw [e, np] at ho
      cases ho
    rcases (mem x).mp hx with rfl | hx
    · rcases (mem y).mp hy with rfl | hy
      · rfl
      · rw [if_pos (show (blank s k).key = k from rfl), if_neg (hk y hy)] at e
        exact absurd e.symm (tr y hy)
    · rcases (mem y).mp hy with rfl | hy
      · rw [if_neg (hk x hx), if_pos (show (blank s k).key = k from rfl)] at e
        exact absurd e (tr x hx)
      · rw [if_neg (hk x hx), if_neg (hk y hy)] at e
        exact B.inj x hx y hy e
  · rcases (mem x).mp hx with rfl | hx
    · rw [if_pos (show (blank s k).key = k from rfl)]
      refine ⟨⟨dp, tv, q, nd _ _ hp (fun _ z => nomatch z), ?_, nd _ _ hq (fun _ z => nomatch z), fun z => ?_⟩, fun t e => ?_, ⟨fun _ => rfl, fun _ => rfl⟩⟩
      · exact (B.trig.same sm).keep (fun a xs e => nd _ _ e (fun _ z => nomatch z))
      · obtain ⟨o, ho⟩ := hav q z
        rw [nq] at ho
        cases ho
      · have e : begun s.trigger = t := Option.some.inj e
        rw [← e, dep_begun]
        exact B.dpt
    · rw [if_neg (hk x hx)]
      refine (B.pile x hx).keep2 (fun b o e w => nd _ _ (sm _ _ e) ?_) (fun _ _ _ z => z)
      obtain ⟨⟨dx', v', q', h1, _⟩, _, _⟩ := B.pile x hx
      rcases w with rfl | ⟨xs, rfl⟩ | ⟨xs, rfl, _⟩
      · rw [h1] at e
        cases e
        exact fun _ z => nomatch z
      · exact fun _ z => nomatch z
      · exact fun _ z => nomatch z
  · rcases (mem x).mp hx with rfl | hx
    · exact h9
    · exact B.le9 x hx
end
/-- one of the stretch's own fields is put -/
theorem StB.put {CS C : Addr} {av : Addr → Prop} {H : Hp} {st : Addr} {s : Hs03.St} {dx : Addr} {tv : V} {d : Addr} {kvs : List (L2.Key × V)} {ks : List Int} {A : Nat → Addr} (B : StB CS C av H st s dx tv d kvs ks A) (s' : Hs03.St) (f : Str) (v : V)
    (e : putF f v (sf s.mode (Hs03.flag s.empties) tv s.passed d s.taken s.left) = sf s'.mode (Hs03.flag s'.empties) tv s'.passed d s'.taken s'.left) (ht : s'.trigger = s.trigger) (hk : s'.keys = s.keys) :
    Fra H (upd H st (.ins CS dx (putF f v (sf s.mode (Hs03.flag s.empties) tv s.passed d s.taken s.left)))) ∧ Trk H (upd H st (.ins CS dx (putF f v (sf s.mode (Hs03.flag s.empties) tv s.passed d s.taken s.left)))) ∧
      StB CS C av (upd H st (.ins CS dx (putF f v (sf s.mode (Hs03.flag s.empties) tv s.passed d s.taken s.left)))) st s' dx tv d kvs ks A :=
  ⟨Fra.but B.inst But.upd, Trk.upd, B.turn ht hk But.upd (by rw [upd_same, e])⟩
theorem Trk.free {H H' : Hp} (t : Trk H H') {r : Addr} (h : H' r = none) : H r = none := by
  cases q : H r with
  | none => rfl
  | some o =>
    obtain ⟨o', z⟩ := t r o q
    rw [z] at h
    cases h
def spEvent (CS C : Addr) : Sp := fun vs H Q _ => ∃ (st : Addr) (s : Hs03.St) (k v : Nat) (av : Addr → Prop), vs = [.ref st, .int k, .int v] ∧ StAt CS C av H st s ∧ AvOk av H ∧ Post CS C av H st s (.event k v) Q
section
variable {P : Program} {w : World} {K : PySem.W.Frag} {mg : Str → Option Value} {base : Heap} {CS C : Addr}
theorem sc_ev : FnScope ["self", "key", "value", "is_first", "pile", "changes"] ["self", "key", "value"] (defScope s_Stretch_take_event) := ⟨rfl, rfl, rfl, by decide +kernel, rfl, by decide +kernel, by decide +kernel⟩
theorem ok_take_event {fI : Addr} {fdI : FuncData} (D : MDef K CS "take_event" "Stretch.take_event" s_Stretch_take_event ["self", "key", "value"]) (T : Cs mg) (S : STx K mg CS) (PT : PTx K mg C)
    (MK : Mk K C fI) (FI : FnOk P w K mg base CX0 1 fI fdI ["self", "key", "trigger"] (spPInit C)) (bI : Binds K fdI ["self", "key", "trigger"] []) (mC : mg "Pile" = some (.ref C))
    (TK : MCal P w K mg base 1 C "take" ["self", "value"] (spTake C)) (LH : MCal P w K mg base 23 CS "let_hear" ["self", "pile", "heard"] (spLH CS C)) (CC : Cal P w K mg base 1 "count_changes" ["changes"] spCC) :
    MCal P w K mg base 24 CS "take_event" ["self", "key", "value"] (spEvent CS C) := by
  obtain ⟨f, fd, F, b, m⟩ := D
  refine ⟨f, fd, F.ok sc_ev (fun vs H Q E h => ?_) (fun cdv A outer s H vs Q E hr h => ?_), b, m⟩
  · obtain ⟨st, s, k, v, av, rfl, _⟩ := h
    rfl
  obtain ⟨st, sp, ky, v, av, rfl, BB, hav, k⟩ := h
  have hr1 : Room 1 _ := hr.mono (show 1 ≤ 23 by decide)
  have hr2 : Room 2 _ := hr.mono (show 2 ≤ 23 by decide)
  refine ⟨_, pss_cons (ps_if (pw_or (pt_cmp (pc_gt (pv 1) (pg_ci S.lastKey))) (pw_or1 (pt_cmp (pc_gt (pv 2) (pg_ci S.mostV))))).pt (pss_one (ps_ret (pe_lst (pa_cons (pe_un un_neg pe_int) pa_nil)))) pss_nil)
    (pss_cons (ps_set (i := 3) sc_ev.nd rfl (Or.inl rfl) (pe_cmp (pc_dnotin (hu_of hr) (pv 1) (pe_fld (pv 0) rfl)) (by with_unfolding_all rfl)))
    (pss_cons (ps_if (pt_val (pv 3)) (pss_one (ps_dput (hu_of hr) (pe_fld (pv 0) rfl) (pv 1) (pe_make MK FI hr2 (by rfl) mC bI .nil pass0 (pa_cons (pv 1) (pa_cons (pe_fld (pv 0) rfl) pa_nil))) rfl)) pss_nil)
    (pss_cons (ps_set (i := 4) sc_ev.nd rfl (Or.inl rfl) (pe_dget (hu_of hr) (pe_fld (pv 0) rfl) (pv 1) (fun _ _ => rfl)))
    (pss_cons (ps_if (pt_cmp (pc_isN (pe_fld (pv 4) rfl))) (pss_cons (ps_fldaug (pv 0) pe_int in_add) (pss_one (ps_ret (pe_op op_cat (pe_lst (pa_cons pe_int pa_nil)) (pe_cal CC hr1 (pa_cons (pe_lst pa_nil) pa_nil)))))) pss_nil)
    (pss_cons (ps_fldaug (pv 0) pe_int in_add)
    (pss_cons (ps_expr (pe_mcal (pv 4) PT.cl TK hr1 (pa_cons (pv 2) pa_nil)))
    (pss_cons (ps_set (i := 5) sc_ev.nd rfl (Or.inl rfl) (pe_mcal (pv 0) S.cl LH hr (pa_cons (pv 4) (pa_cons (pg_ci T.event) pa_nil))))
    (pss_cons (ps_if (pw_and (pt_val (pv 3)) (pw_and1 (pt_val (pe_fld (pv 0) rfl)))).pt
      (pss_one (ps_expr (pe_bm PySem.F.plainAttrs_list PySem.F.slot_list_extend PySem.F.type_list_extend mt_extend (pv 5) (pa_cons (pe_mcal (pv 0) S.cl LH hr (pa_cons (pv 4) (pa_cons (pg_ci T.mark) pa_nil))) pa_nil)))) pss_nil)
    (pss_one (ps_ret (pe_op op_cat (pe_lst (pa_cons pe_int pa_nil)) (pe_cal CC hr1 (pa_cons (pv 5) pa_nil))))))))))))), ?_⟩
  refine ⟨_, rfl, _, _, rfl, rfl, _, rfl, or2 (c2 := (1000000 : Int) < (v : Int)) (fun z => ⟨_, rfl, _, _, rfl, rfl, _, rfl, z⟩) (if2 (fun c => ?_) (fun c => ?_))⟩
  · refine ⟨_, rfl, sz, fun r hr' => k.refused BB (l := [-1]) ?_ hr'⟩
    simp only [Hs03.step]
    rw [if_pos (by omega)]
  obtain ⟨dx, tv, d, kvs, ks, Ad, B⟩ := BB
  have hget : DGet H d (.int ky) (valV kvs (.inl (ky : Int))) := DGet.k (k := Sum.inl (ky : Int)) B.dict
  refine ⟨_, rfl, _, rfl, st, CS, dx, _, _, rfl, B.inst, S.cl, S.npiles, rfl, d, _, rfl, hget, ?_⟩
  refine ⟨_, rfl, _, rfl, ifNB (fun c1 => ?y1) (fun c1 => ?y2)⟩
  case' y1 =>
    have hk : ∀ x ∈ sp.keys, x.key ≠ ky := fun x hx e => by
      have := B.vals x hx
      rw [e] at this
      rw [this] at c1
      cases c1
    have klen : kvs.length ≤ 10 := by
      have e1 := congrArg List.length B.keys
      rw [List.length_map, List.length_map] at e1
      rw [e1, B.perm.length_eq, List.length_map]
      exact B.len
    refine ⟨_, rfl, _, rfl, st, CS, dx, _, _, rfl, B.inst, S.cl, S.ntrig, rfl, fun p dp np ndp ne => ⟨p, dp, ky, tv, rfl, upd_same, fun H2 q bu nq hp hq => ⟨rfl, ?_⟩⟩⟩
    have sm : Same H H2 := Same.made np ndp bu
    have nq' : H q = none := by
      cases z : H q with
      | none => rfl
      | some o =>
        rw [upd_ne (ne_of_none z np), upd_ne (ne_of_none z ndp), z] at nq
        cases nq
    refine ⟨_, rfl, st, CS, dx, _, _, rfl, sm _ _ B.inst, S.cl, S.npiles, rfl, _, rfl, d, _, rfl, DPut.k (k := Sum.inl (ky : Int)) (sm _ _ B.dict) (szl (by omega)), ?_⟩
    have B1 := B.insert hav hk (by omega) sm hp hq np nq'
    have f1 := (Fra.of sm).trans (Fra.dict (o := .dK (putK kvs (.inl (ky : Int)) (.ref p))) (sm _ _ B.dict))
    have t1 := (Trk.same sm).trans (Trk.upd (a := d) (o := .dK (putK kvs (.inl (ky : Int)) (.ref p))))
    generalize upd H2 d (.dK (putK kvs (.inl (ky : Int)) (.ref p))) = H1 at B1 f1 t1 ⊢
    have hold : keyOf sp ky ≠ none → put (blank sp ky) sp.keys = sp.keys := fun z => absurd (by
      cases q : keyOf sp ky with
      | none => rfl
      | some x =>
        obtain ⟨i, h1, h2⟩ := keyOf_some q
        exact absurd h2 (hk x (List.mem_of_getElem? h1))) z
    have hno : keyOf sp ky = none := by
      cases q : keyOf sp ky with
      | none => rfl
      | some x =>
        obtain ⟨i, h1, h2⟩ := keyOf_some q
        exact absurd h2 (hk x (List.mem_of_getElem? h1))
    have ef : blank sp ky = (keyOf sp ky).getD (blank sp ky) := by rw [hno]; rfl
    obtain ⟨i, ei⟩ := List.mem_iff_getElem?.mp ((put_mem (blank sp ky) sp.keys hk (blank sp ky)).mpr (.inl rfl))
    have hput : ∀ y : Hs03.Key, y.key = ky → put y sp.keys = (put (blank sp ky) sp.keys).set i y := fun y hy => by
      rw [← put_put (blank sp ky) y sp.keys hy]
      exact put_set y _ i (blank sp ky) (put_srt _ _ B.srt hk) ei hy
    have ek : (blank sp ky).key = ky := rfl
    generalize put (blank sp ky) sp.keys = K1 at B1 hold ei hput
    generalize putK kvs (.inl (ky : Int)) (.ref p) = kvs1 at B1
    generalize ks ++ [(ky : Int)] = ks1 at B1
    generalize (fun n => if n = ky then p else Ad n) = A1 at B1
    have hfst : (!(valV kvs (.inl (ky : Int))).isSome) = decide (keyOf sp ky = none) := by rw [c1, hno]; rfl
    obtain ⟨x1, hx1⟩ : ∃ x, x = blank sp ky := ⟨_, rfl⟩
    rw [← hx1] at ei ek
    have ef : x1 = (keyOf sp ky).getD (blank sp ky) := hx1.trans ef
    clear hx1
  case' y2 =>
    obtain ⟨x1, hx1, ek⟩ : ∃ x ∈ sp.keys, x.key = ky := by
      have z : ¬ ∀ x ∈ sp.keys, x.key ≠ ky := fun z => by
        rw [B.val_none z] at c1
        cases c1
      exact Classical.byContradiction fun y => z fun x hx e => y ⟨x, hx, e⟩
    have hsome := keyOf_of B.srt hx1 ek
    obtain ⟨i, ei⟩ := List.mem_iff_getElem?.mp hx1
    have ef : x1 = (keyOf sp ky).getD (blank sp ky) := by rw [hsome]; rfl
    have hput : ∀ y : Hs03.Key, y.key = ky → put y sp.keys = sp.keys.set i y := fun y hy => put_set y _ i x1 B.srt ei (by rw [hy, ek])
    have hold : keyOf sp ky ≠ none → sp.keys = sp.keys := fun _ => rfl
    have hfst : (!(valV kvs (.inl (ky : Int))).isSome) = decide (keyOf sp ky = none) := by rw [c1, hsome]; rfl
    have B1 : StB CS C av H st { sp with keys := sp.keys } dx tv d kvs ks Ad := B
    obtain ⟨K1, hK1⟩ : ∃ K1, K1 = sp.keys := ⟨_, rfl⟩
    rw [← hK1] at ei
    have hput : ∀ y : Hs03.Key, y.key = ky → put y sp.keys = K1.set i y := by rw [hK1]; exact hput
    have hold : keyOf sp ky ≠ none → K1 = sp.keys := fun _ => hK1
    have B1 : StB CS C av H st { sp with keys := K1 } dx tv d kvs ks Ad := by rw [hK1]; exact B
    have f1 : Fra H H := fun b o e _ => e
    have t1 : Trk H H := fun b o e => ⟨o, e⟩
    obtain ⟨kvs1, hkv⟩ : ∃ z, z = kvs := ⟨_, rfl⟩
    obtain ⟨A1, hA1⟩ : ∃ z, z = Ad := ⟨_, rfl⟩
    obtain ⟨ks1, hks⟩ : ∃ z, z = ks := ⟨_, rfl⟩
    obtain ⟨H1, hH1⟩ : ∃ z, z = H := ⟨_, rfl⟩
    have B1 : StB CS C av H1 st { sp with keys := K1 } dx tv d kvs1 ks1 A1 := by rw [hkv, hA1, hks, hH1]; exact B1
    have f1 : Fra H H1 := by rw [hH1]; exact f1
    have t1 : Trk H H1 := by rw [hH1]; exact t1
    show tSeq _ _ _ _ H
    rw [← hH1]
  all_goals
    have m1 : x1 ∈ K1 := List.mem_of_getElem? ei
    have hv1 : valV kvs1 (.inl (ky : Int)) = some (.ref (A1 ky)) := by
      have := B1.vals x1 m1
      rw [ek] at this
      exact this
    have hg1 : DGet H1 d (.int ky) (some (.ref (A1 ky))) := by
      rw [← hv1]
      exact DGet.k (k := Sum.inl (ky : Int)) B1.dict
    have P1 : PileAt C av H1 (A1 ky) x1 := by
      have := B1.pile x1 m1
      rw [ek] at this
      exact this
    have Pex := P1.ex
    obtain ⟨dxp, tvp, qp, h1, h2, h3, h4⟩ := Pex
    refine ⟨_, rfl, st, CS, dx, _, _, rfl, B1.inst, S.cl, S.npiles, rfl, _, rfl, d, _, rfl, hg1, ?_⟩
    refine ⟨_, rfl, A1 ky, C, dxp, _, _, rfl, h1, PT.cl, PT.ntrig, rfl, _, rfl, if2 (fun c2 => ?_) (fun c2 => ?_)⟩
    · rw [h2.non_iff] at c2
      have hs : keyOf sp ky = some x1 := by
        cases q : keyOf sp ky with
        | none =>
          rw [q] at ef
          rw [ef] at c2
          cases c2
        | some z =>
          rw [q] at ef
          rw [ef]
          rfl
      have hK := hold (by rw [hs]; exact fun z => nomatch z)
      have es : Hs03.step sp (.event ky v) = ({ sp with left := sp.left + 1 }, [0, 0]) := by
        simp only [Hs03.step]
        rw [if_neg (by omega), if_pos]
        · rfl
        · unfold Hs03.isOver
          rw [hs]
          show (x1.trig == none) = true
          rw [c2]
          rfl
      refine ⟨_, rfl, st, CS, dx, _, _, rfl, B1.inst, S.cl, S.nleft, rfl, _, _, rfl, rfl, dx, _, B1.inst, l9 7 rfl, ?_⟩
      obtain ⟨fl, tl, Bl⟩ := B1.put { sp with keys := K1, left := sp.left + 1 } "not_taken" (.int ((sp.left : Int) + 1)) rfl rfl rfl
      have fl := f1.trans fl
      have tl := t1.trans tl
      refine ⟨sz, fun l0 n0 => ⟨sz, fun l1 n1 => ⟨l1, [], rfl, upd_same, Nat.zero_le _, fun H2 r s2 nr er => ⟨l0, r, _, _, rfl, rfl, s2 _ _ (same_new n1 _ _ _ upd_same), er, sz, fun r3 n3 => ?_⟩⟩⟩⟩
      have sa := ((same_new n0 (.lst [.int 0])).trans (same_new n1 (.lst []))).trans s2
      have s3 := same_new n3 (.lst ([.int 0] ++ nv (Hs03.changes [])))
      refine k _ r3 (fl.trans ((Fra.of sa).trans (Fra.of s3))) (tl.trans ((Trk.same sa).trans (Trk.same s3))) (tl.free (sa.free n3)) ?_ ?_
      · rw [es, upd_same]
        rfl
      · rw [es]
        have Bz := (Bl.keep (av' := av) (fun b o e _ => sa b o e) (fun _ _ _ z => z)).grow n3 s3
        rw [hK] at Bz
        exact ⟨dx, tv, d, kvs1, ks1, A1, Bz.inst, Bz.trig, Bz.dpt, Bz.dict, Bz.keys, Bz.perm, Bz.vals, Bz.inj, Bz.pile, Bz.srt, Bz.le9⟩
    · rw [h2.non_iff] at c2
      have hcm : Hs03.comes sp ky v = ({ sp with keys := put (if keyOf sp ky = none ∧ sp.passed = true then keyHears sp .mark (keyHears sp .event (addEv x1 v)).1 else ((keyHears sp .event (addEv x1 v)).1, [])).1 sp.keys, taken := sp.taken + 1 },
          (keyHears sp .event (addEv x1 v)).2 ++ (if keyOf sp ky = none ∧ sp.passed = true then keyHears sp .mark (keyHears sp .event (addEv x1 v)).1 else ((keyHears sp .event (addEv x1 v)).1, [])).2) := by
        rw [ef]
        rfl
      have es : Hs03.step sp (.event ky v) = ((Hs03.comes sp ky v).1, Hs03.ints (1 :: Hs03.changes (Hs03.comes sp ky v).2)) := by
        simp only [Hs03.step]
        rw [if_neg (by omega), if_neg]
        unfold Hs03.isOver
        cases q : keyOf sp ky with
        | none => exact Bool.false_ne_true
        | some z =>
          rw [q] at ef
          have ef : x1 = z := ef
          subst ef
          show ¬ (x1.trig == none) = true
          cases e : x1.trig with
          | none => exact absurd e c2
          | some t => exact Bool.false_ne_true
      have fin : ∀ (H5 : Hp) (cs : List Hs03.Change) (y : Hs03.Key), y.key = ky → Fra H H5 → Trk H H5 → StB CS C av H5 st { sp with keys := K1.set i y, taken := sp.taken + 1 } dx tv d kvs1 ks1 A1 → Hs03.comes sp ky v = ({ sp with keys := put y sp.keys, taken := sp.taken + 1 }, cs) →
          ∀ (l0 : Addr), H5 l0 = none → ∀ (H6 : Hp), Same (upd H5 l0 (.lst [.int 1])) H6 → ∀ r7 : Addr, H6 r7 = none → Q (.ref r7) (upd H6 r7 (.lst ([.int 1] ++ nv (Hs03.changes cs)))) := by
        intro H5 cs y hy f5 t5 B5 ec l0 n0 H6 s6 r7 n7
        have sa := (same_new n0 (.lst [.int 1])).trans s6
        have s7 := same_new n7 (.lst ([.int 1] ++ nv (Hs03.changes cs)))
        refine k _ r7 (f5.trans ((Fra.of sa).trans (Fra.of s7))) (t5.trans ((Trk.same sa).trans (Trk.same s7))) (t5.free (sa.free n7)) ?_ ?_
        · rw [es, ec, upd_same, ← nv_ints]
          rfl
        · rw [es, ec]
          have Bz := (B5.keep (av' := av) (fun b o e _ => sa b o e) (fun _ _ _ z => z)).grow n7 s7
          rw [← hput y hy] at Bz
          exact ⟨dx, tv, d, kvs1, ks1, A1, Bz.inst, Bz.trig, Bz.dpt, Bz.dict, Bz.keys, Bz.perm, Bz.vals, Bz.inj, Bz.pile, Bz.srt, Bz.le9⟩
      refine ⟨_, rfl, st, CS, dx, _, _, rfl, B1.inst, S.cl, S.ntaken, rfl, _, _, rfl, rfl, dx, _, B1.inst, l9 7 rfl, ?_⟩
      obtain ⟨ft, tt, Bt⟩ := B1.put { sp with keys := K1, taken := sp.taken + 1 } "taken" (.int ((sp.taken : Int) + 1)) rfl rfl rfl
      refine (?_ : ∀ Ht : Hp, Fra H Ht → Trk H Ht → StB CS C av Ht st { sp with keys := K1, taken := sp.taken + 1 } dx tv d kvs1 ks1 A1 → tSeq _ _ _ _ Ht) _ (f1.trans ft) (t1.trans tt) Bt
      clear h1 h2 h3 h4 P1 hg1 B1 f1 t1 ft tt Bt
      intro H1 f1 t1 B1
      have P1 : PileAt C av H1 (A1 ky) x1 := by
        have := B1.pile x1 m1
        rw [ek] at this
        exact this
      have Pex := P1.ex
      obtain ⟨dxp, tvp, qp, h1, h2, h3, h4⟩ := Pex
      refine ⟨_, rfl, A1 ky, dxp, _, rfl, h1, rfl, _, rfl, A1 ky, v, x1, av, rfl, P1, fun H2 bu2 P2 => ?_⟩
      have nst : st ≠ A1 ky := ne_of B1.inst h1 sf_pf
      have i2 := bu2 _ _ B1.inst nst
      have t2 : Trk H H2 := by
        obtain ⟨o, z⟩ := P2.there
        exact t1.trans (Trk.but bu2 z)
      refine ⟨_, rfl, st, dx, _, rfl, i2, rfl, _, rfl, st, A1 ky, sp, .event, addEv x1 v, av, rfl, ⟨dx, tv, d, _, _, i2⟩, P2, hav.trk t2, fun H3 r bu3 nr er P3 => ?_⟩
      have t3 : Trk H H3 := by
        obtain ⟨o, z⟩ := P3.there
        exact t2.trans (Trk.but bu3 z)
      have ka : (keyHears sp .event (addEv x1 v)).1.key = ky := (key_hears sp .event (addEv x1 v)).trans ek
      have b13 : But (A1 ky) H1 H3 := bu2.trans bu3
      have B3 : StB CS C av H3 st { sp with keys := K1.set i (keyHears sp .event (addEv x1 v)).1, taken := sp.taken + 1 } dx tv d kvs1 ks1 A1 :=
        B1.step ei (ka.trans ek.symm) (by rw [ek]; exact b13) (by rw [ek]; exact P3.keep (fun _ _ z _ => z) (fun _ _ _ z => .inr z))
      have f3 : Fra H H3 := f1.trans (Fra.but h1 b13)
      have la := len_hears sp .event (addEv x1 v)
      refine ⟨_, rfl, _, rfl, and2b (c2 := sp.passed) (fun z => ⟨_, rfl, st, CS, dx, _, _, rfl, B3.inst, S.cl, S.nmp, rfl, _, rfl, z⟩) (ifB (fun c3 => ?_) (fun c3 => ?_))⟩
      · rw [hfst, Bool.and_eq_true, decide_eq_true_iff] at c3
        rw [if_pos c3] at hcm
        have lb := len_hears sp .mark (keyHears sp .event (addEv x1 v)).1
        obtain ⟨o3, hp3⟩ := P3.there
        have Pex3 := P3.ex
        obtain ⟨dx3, tv3, q3, g1, g2, g3, g4⟩ := Pex3
        have nr3 : r ≠ A1 ky := ne_of er g1 (fun z => nomatch z)
        refine ⟨_, rfl, .inl ⟨rfl, _, SqL.of er⟩, _, rfl, st, dx, _, rfl, B3.inst, rfl, _, rfl, st, A1 ky, sp, .mark, _, _, rfl, ⟨dx, tv, d, _, _, B3.inst⟩, P3, ?_, fun H4 r4 bu4 nr4 er4 P4 => ?_⟩
        · rintro b (rfl | hb)
          · exact ⟨_, er⟩
          · exact hav.trk t3 b hb
        have er' := bu4 _ _ er nr3
        refine ⟨r, r4, _, _, rfl, rfl, er', er4, sz (by rw [chg_len, chg_len]; omega), ?_⟩
        have t4 : Trk H (upd H4 r (.lst (chg (keyHears sp .event (addEv x1 v)).2 ++ chg (keyHears sp .mark (keyHears sp .event (addEv x1 v)).1).2))) := by
          obtain ⟨o, z⟩ := P4.there
          exact (t3.trans (Trk.but bu4 z)).trans Trk.upd
        have kb : (keyHears sp .mark (keyHears sp .event (addEv x1 v)).1).1.key = ky := (key_hears sp .mark _).trans ka
        have Pex4 := P4.ex
        obtain ⟨dx4, tv4, q4, j1, j2, j3, j4⟩ := Pex4
        have nr1 : H1 r = none := by
          obtain ⟨o, z⟩ := P2.there
          exact (Trk.but bu2 z).free nr
        have b15 : But (A1 ky) H1 (upd H4 r (.lst (chg (keyHears sp .event (addEv x1 v)).2 ++ chg (keyHears sp .mark (keyHears sp .event (addEv x1 v)).1).2))) := fun b o e n => by
          rw [upd_ne (ne_of_none e nr1)]
          exact (b13.trans bu4) b o e n
        have P5 : PileAt C av (upd H4 r (.lst (chg (keyHears sp .event (addEv x1 v)).2 ++ chg (keyHears sp .mark (keyHears sp .event (addEv x1 v)).1).2))) (A1 ky) (keyHears sp .mark (keyHears sp .event (addEv x1 v)).1).1 :=
          P4.keep (fun b o e n => by
            rw [upd_ne]
            · exact e
            · rintro rfl
              rw [er'] at e
              cases e
              exact n _ rfl (.inr (.inl rfl))) (fun _ _ _ z => .inr (.inr z))
        have B5 : StB CS C av _ st { sp with keys := K1.set i (keyHears sp .mark (keyHears sp .event (addEv x1 v)).1).1, taken := sp.taken + 1 } dx tv d kvs1 ks1 A1 :=
          B1.step ei (kb.trans ek.symm) (by rw [ek]; exact b15) (by rw [ek]; exact P5)
        have f5 := f1.trans (Fra.but h1 b15)
        have er5 := upd_same (H := H4) (a := r) (o := .lst (chg (keyHears sp .event (addEv x1 v)).2 ++ chg (keyHears sp .mark (keyHears sp .event (addEv x1 v)).1).2))
        generalize upd H4 r (.lst (chg (keyHears sp .event (addEv x1 v)).2 ++ chg (keyHears sp .mark (keyHears sp .event (addEv x1 v)).1).2)) = H5 at t4 B5 f5 er5 ⊢
        rw [← chg_append] at er5
        refine ⟨sz, fun l0 n0 => ⟨_, rfl, r, (keyHears sp .event (addEv x1 v)).2 ++ (keyHears sp .mark (keyHears sp .event (addEv x1 v)).1).2, rfl, same_new n0 _ _ _ er5, by rw [List.length_append]; omega, fun H6 r6 s6 n6 e6 => ⟨l0, r6, _, _, rfl, rfl, s6 _ _ upd_same, e6, sz (by rw [nv_chg, List.length_singleton, List.length_cons, chg_len, List.length_append]; omega), fun r7 n7 => ?_⟩⟩⟩
        exact fin H5 _ _ kb f5 t4 B5 hcm l0 n0 H6 s6 r7 n7
      · rw [hfst, Bool.and_eq_false_iff, decide_eq_false_iff_not] at c3
        rw [if_neg (fun z => by rcases c3 with c3 | c3; exact c3 z.1; rw [z.2] at c3; cases c3)] at hcm
        refine ⟨sz, fun l0 n0 => ⟨_, rfl, r, _, rfl, same_new n0 _ _ _ er, by omega, fun H6 r6 s6 n6 e6 => ⟨l0, r6, _, _, rfl, rfl, s6 _ _ upd_same, e6, sz (by rw [nv_chg, List.length_singleton, List.length_cons, chg_len]; omega), fun r7 n7 => ?_⟩⟩⟩
        refine fin H3 _ _ ka f3 t3 B3 ?_ l0 n0 H6 s6 r7 n7
        rw [hcm, List.append_nil]
end
end M

end
section
set_option Elab.async false
set_option linter.all false
set_option maxRecDepth 100000
set_option maxHeartbeats 2000000
namespace M
open PySem PySem.Spec PyProof.Rows L2
open Hs03 (Trig T begun hears keyOf)
/-! ### key, keys, soon, counts: mathematics -/
def keyTold (x : Hs03.Key) : List Nat := [Hs03.flag (x.trig == none), x.newCount, x.newSum, x.allCount, x.allSum, x.panes]
def soonN (h : Hs03.H) (t : Trig) : Nat := (Hs03.soon h 2000 t).getD 0
theorem soon_fires {h : Hs03.H} {f : Nat} {t : Trig} (e : (hears t h).1 = true) : Hs03.soon h (f + 1) t = some 1 := by
  simp only [Hs03.soon, e, if_true]
theorem soon_still {h : Hs03.H} {f : Nat} {t u : Trig} (e : (hears t h).1 = false) (e2 : (hears t h).2 = some u) : Hs03.soon h (f + 1) t = (Hs03.soon h f u).map fun n => n + 1 := by
  simp only [Hs03.soon, e, e2, Bool.false_eq_true, if_false]
/-! ### promises -/
def spShow (C : Addr) : Sp := fun vs H Q _ => ∃ (p : Addr) (x : Hs03.Key) (av : Addr → Prop), vs = [.ref p] ∧ PileAt C av H p x ∧ ∀ r : Addr, H r = none → Q (.ref r) (upd H r (.lst (nv (keyTold x))))
def spKey (CS C : Addr) : Sp := fun vs H Q _ => ∃ (st : Addr) (s : Hs03.St) (k : Nat) (av : Addr → Prop), vs = [.ref st, .int k] ∧ StAt CS C av H st s ∧ Post CS C av H st s (.key k) Q
def spKeys (CS C : Addr) : Sp := fun vs H Q _ => ∃ (st : Addr) (s : Hs03.St) (av : Addr → Prop), vs = [.ref st] ∧ StAt CS C av H st s ∧ Post CS C av H st s .keys Q
def spSoon (CS C : Addr) : Sp := fun vs H Q _ => ∃ (st : Addr) (s : Hs03.St) (k so : Nat) (av : Addr → Prop), vs = [.ref st, .int k, .int so] ∧ StAt CS C av H st s ∧ Post CS C av H st s (.soon k so) Q
def spCounts (CS C : Addr) : Sp := fun vs H Q _ => ∃ (st : Addr) (s : Hs03.St) (av : Addr → Prop), vs = [.ref st] ∧ StAt CS C av H st s ∧ Post CS C av H st s .counts Q
def spLA : Sp := fun vs H Q _ => ∃ (v : V) (t : Trig) (h : Hs03.H), vs = [v, .int (hc h)] ∧ TrAt H v t ∧ dep t ≤ 10 ∧ ∀ H' : Hp, Same H H' → Q (.int (soonN h t)) H'
/-- an answer that leaves the stretch as it was -/
theorem Post.told {CS C : Addr} {av : Addr → Prop} {H H1 : Hp} {st : Addr} {s : Hs03.St} {c : Hs03.Call} {Q : VK} (p : Post CS C av H st s c Q) (B : StAt CS C av H st s) (sm : Same H H1) {l : List Int} (e : Hs03.step s c = (s, l)) {r : Addr} (hr : H1 r = none) {vs : List V} (ev : vs = l.map V.int) : Q (.ref r) (upd H1 r (.lst vs)) := by
  subst ev
  have s1 := same_new hr (.lst (l.map V.int))
  refine p _ r (Fra.of (sm.trans s1)) (Trk.same (sm.trans s1)) (sm.free hr) ?_ ?_
  · rw [e]
    exact upd_same
  · rw [e]
    exact B.grow (sm.free hr) (sm.trans s1)
section
variable {CS C : Addr} {av av' : Addr → Prop} {H H2 : Hp} {st : Addr} {s s' : Hs03.St} {dx : Addr} {tv : V} {d : Addr} {kvs : List (L2.Key × V)} {ks : List Int} {A : Nat → Addr}
/-- no such key -/
theorem StB.not_there (B : StB CS C av H st s dx tv d kvs ks A) {k : Nat} (c : (valV kvs (.inl (k : Int))).isSome = false) : keyOf s k = none := by
  cases q : keyOf s k with
  | none => rfl
  | some x =>
    obtain ⟨i, h1, h2⟩ := keyOf_some q
    have := B.vals x (List.mem_of_getElem? h1)
    rw [h2] at this
    rw [this] at c
    cases c
/-- the key and its pile -/
theorem StB.there (B : StB CS C av H st s dx tv d kvs ks A) {k : Nat} (c : (valV kvs (.inl (k : Int))).isSome = true) : ∃ x, keyOf s k = some x ∧ DGet H d (.int k) (some (.ref (A k))) ∧ PileAt C av H (A k) x := by
  obtain ⟨x1, hx1, ek⟩ : ∃ x ∈ s.keys, x.key = k := by
    have z : ¬ ∀ x ∈ s.keys, x.key ≠ k := fun z => by
      rw [B.val_none z] at c
      cases c
    exact Classical.byContradiction fun y => z fun x hx e => y ⟨x, hx, e⟩
  have hv := B.vals x1 hx1
  have hp := B.pile x1 hx1
  rw [ek] at hv hp
  refine ⟨x1, keyOf_of B.srt hx1 ek, ?_, hp⟩
  rw [← hv]
  exact DGet.k (k := Sum.inl (k : Int)) B.dict
end
section
variable {P : Program} {w : World} {K : PySem.W.Frag} {mg : Str → Option Value} {base : Heap} {CS C : Addr}
theorem sc_shw : FnScope ["self", "is_over"] ["self"] (defScope s_Pile_show) := ⟨rfl, rfl, rfl, by decide +kernel, rfl, by decide +kernel, by decide +kernel⟩
theorem ok_show (D : MDef K C "show" "Pile.show" s_Pile_show ["self"]) (T : PTx K mg C) : MCal P w K mg base 1 C "show" ["self"] (spShow C) := by
  obtain ⟨f, fd, F, b, m⟩ := D
  refine ⟨f, fd, F.ok sc_shw (fun vs H Q E h => ?_) (fun cdv A outer s H vs Q E hr h => ?_), b, m⟩
  · obtain ⟨p, x, av, rfl, _⟩ := h
    rfl
  obtain ⟨p, x, av, rfl, ⟨⟨dx, v, q, h1, h2, h3, h4⟩, hd, hl⟩, k⟩ := h
  refine ⟨_, pss_cons (ps_set (i := 1) sc_shw.nd rfl (Or.inl rfl) (pe_ifExp (pt_cmp (pc_isN (pe_fld (pv 0) rfl))) pe_int pe_int))
    (pss_one (ps_ret (pe_lst (pa_cons (pv 1) (pa_cons (pe_fld (pv 0) rfl) (pa_cons (pe_fld (pv 0) rfl) (pa_cons (pe_fld (pv 0) rfl) (pa_cons (pe_fld (pv 0) rfl) (pa_cons (pe_fld (pv 0) rfl) pa_nil))))))))), ?_⟩
  refine ⟨_, rfl, p, C, dx, _, _, rfl, h1, T.cl, T.ntrig, rfl, _, rfl, if2 (fun c => ?_) (fun c => ?_)⟩
  · rw [h2.non_iff] at c
    refine ⟨_, rfl, _, rfl, p, C, dx, _, _, rfl, h1, T.cl, T.nnc, rfl, _, rfl, p, C, dx, _, _, rfl, h1, T.cl, T.nns, rfl, _, rfl, p, C, dx, _, _, rfl, h1, T.cl, T.nac, rfl, _, rfl, p, C, dx, _, _, rfl, h1, T.cl, T.nas, rfl, _, rfl, p, C, dx, _, _, rfl, h1, T.cl, T.npn, rfl, sz, fun r hr' => ?_⟩
    have := k r hr'
    simp only [keyTold, c] at this
    exact this
  · rw [h2.non_iff] at c
    refine ⟨_, rfl, _, rfl, p, C, dx, _, _, rfl, h1, T.cl, T.nnc, rfl, _, rfl, p, C, dx, _, _, rfl, h1, T.cl, T.nns, rfl, _, rfl, p, C, dx, _, _, rfl, h1, T.cl, T.nac, rfl, _, rfl, p, C, dx, _, _, rfl, h1, T.cl, T.nas, rfl, _, rfl, p, C, dx, _, _, rfl, h1, T.cl, T.npn, rfl, sz, fun r hr' => ?_⟩
    have := k r hr'
    have e : (x.trig == none) = false := by
      cases q : x.trig with
      | none => exact absurd q c
      | some t => rfl
    simp only [keyTold, e] at this
    exact this
theorem sc_sk : FnScope ["self", "key"] ["self", "key"] (defScope s_Stretch_show_key) := ⟨rfl, rfl, rfl, by decide +kernel, rfl, by decide +kernel, by decide +kernel⟩
theorem ok_show_key (D : MDef K CS "show_key" "Stretch.show_key" s_Stretch_show_key ["self", "key"]) (S : STx K mg CS) (PT : PTx K mg C) (SW : MCal P w K mg base 1 C "show" ["self"] (spShow C)) : MCal P w K mg base 2 CS "show_key" ["self", "key"] (spKey CS C) := by
  obtain ⟨f, fd, F, b, m⟩ := D
  refine ⟨f, fd, F.ok sc_sk (fun vs H Q E h => ?_) (fun cdv A outer s H vs Q E hr h => ?_), b, m⟩
  · obtain ⟨st, s, k, av, rfl, _⟩ := h
    rfl
  obtain ⟨st, sp, ky, av, rfl, BB, k⟩ := h
  refine ⟨_, pss_cons (ps_if (pt_cmp (pc_dnotin (hu_of hr) (pv 1) (pe_fld (pv 0) rfl)) (by with_unfolding_all rfl)) (pss_one (ps_ret (pe_lst (pa_cons (pe_un un_neg pe_int) pa_nil)))) pss_nil)
    (pss_one (ps_ret (pe_mcal0 (pe_dget (hu_of hr) (pe_fld (pv 0) rfl) (pv 1) (fun _ _ => rfl)) PT.cl SW hr))), ?_⟩
  obtain ⟨dx, tv, d, kvs, ks, Ad, B⟩ := BB
  have BB : StAt CS C av H st sp := ⟨dx, tv, d, kvs, ks, Ad, B⟩
  have hget : DGet H d (.int ky) (valV kvs (.inl (ky : Int))) := DGet.k (k := Sum.inl (ky : Int)) B.dict
  refine ⟨_, rfl, _, rfl, st, CS, dx, _, _, rfl, B.inst, S.cl, S.npiles, rfl, d, _, rfl, hget, _, rfl, ifNB (fun c1 => ?_) (fun c1 => ?_)⟩
  · refine ⟨_, rfl, sz, fun r hr' => k.refused BB (l := [-5]) ?_ hr'⟩
    simp only [Hs03.step, B.not_there c1]
  · obtain ⟨x, ex, hg, P1⟩ := B.there c1
    have Pex := P1.ex
    obtain ⟨dxp, tvp, qp, h1, h2, h3, h4⟩ := Pex
    refine ⟨_, rfl, st, CS, dx, _, _, rfl, B.inst, S.cl, S.npiles, rfl, _, rfl, d, _, rfl, hg, Ad ky, dxp, _, rfl, h1, rfl, Ad ky, x, av, rfl, P1, fun r hr' => k.told BB (fun _ _ e => e) (l := Hs03.ints (keyTold x)) ?_ hr' (nv_ints _)⟩
    simp only [Hs03.step, ex]
    rfl
theorem sc_ss : FnScope ["self"] ["self"] (defScope s_Stretch_show_keys) := ⟨rfl, rfl, rfl, by decide +kernel, rfl, by decide +kernel, by decide +kernel⟩
theorem ok_show_keys (D : MDef K CS "show_keys" "Stretch.show_keys" s_Stretch_show_keys ["self"]) (T : Cs mg) (S : STx K mg CS) : MCal P w K mg base 1 CS "show_keys" ["self"] (spKeys CS C) := by
  obtain ⟨f, fd, F, b, m⟩ := D
  refine ⟨f, fd, F.ok sc_ss (fun vs H Q E h => ?_) (fun cdv A outer s H vs Q E hr h => ?_), b, m⟩
  · obtain ⟨st, s, av, rfl, _⟩ := h
    rfl
  obtain ⟨st, sp, av, rfl, BB, k⟩ := h
  refine ⟨_, pss_one (ps_ret (pe_op op_cat (pe_lst (pa_cons (pe_callB call_lenD (by rfl) T.len PySem.boot_len (pa_cons (pe_fld (pv 0) rfl) pa_nil)) pa_nil)) (pe_callB (cr_sortedD rfl) (by rfl) S.sorted boot_sorted (pa_cons (pe_fld (pv 0) rfl) pa_nil)))), ?_⟩
  obtain ⟨dx, tv, d, kvs, ks, Ad, B⟩ := BB
  have BB : StAt CS C av H st sp := ⟨dx, tv, d, kvs, ks, Ad, B⟩
  have klen : ks.length = sp.keys.length := by rw [B.perm.length_eq, List.length_map]
  have vlen : kvs.length = sp.keys.length := by
    have e1 := congrArg List.length B.keys
    rw [List.length_map, List.length_map] at e1
    rw [e1, klen]
  have h10 := B.len
  refine ⟨_, rfl, st, CS, dx, _, _, rfl, B.inst, S.cl, S.npiles, rfl, d, kvs, rfl, B.dict, sz, fun p hp => ?_⟩
  have s0 := same_new hp (.lst [.int kvs.length])
  refine ⟨_, rfl, st, CS, dx, _, _, rfl, s0 _ _ B.inst, S.cl, S.npiles, rfl, d, kvs, ks, rfl, s0 _ _ B.dict, B.keys, by omega, fun ns q hpm hpw hq => ?_⟩
  have ens : ns = sp.keys.map fun x => (x.key : Int) := by
    refine PySem.W.ksm_same (hpm.trans B.perm) hpw ?_
    refine List.pairwise_map.mpr (B.srt.imp ?_)
    intro a b q
    omega
  have s1 := same_new hq (.lst (ns.map V.int))
  have nlen : ns.length = sp.keys.length := by rw [ens, List.length_map]
  refine ⟨p, q, _, _, rfl, rfl, s1 _ _ upd_same, upd_same, sz (by rw [List.length_singleton, List.length_map]; omega), fun r hr' => k.told BB (s0.trans s1) (l := Hs03.ints (sp.keys.length :: sp.keys.map Hs03.Key.key)) rfl hr' ?_⟩
  rw [vlen, ens]
  simp only [Hs03.ints, List.map_cons, List.map_map]
  rfl
theorem sc_la : FnScope ["trigger", "heard", "left", "number", "outcome"] ["trigger", "heard"] (defScope s_look_ahead) := ⟨rfl, rfl, rfl, by decide +kernel, rfl, by decide +kernel, by decide +kernel⟩
theorem ok_look_ahead (D : DefAt K mg "look_ahead" s_look_ahead ["trigger", "heard"]) (T : Cs mg) (S : STx K mg CS) (ML : CI mg "MOST_LOOKED_AHEAD" 2000) (HE : Cal P w K mg base 22 "hear" ["trigger", "heard"] (spHr fun t => dep t ≤ 10)) : Cal P w K mg base 23 "look_ahead" ["trigger", "heard"] spLA := by
  obtain ⟨f, fd, F, b, m⟩ := D
  refine ⟨f, fd, F.ok sc_la (fun vs H Q E h => ?_) (fun cdv A outer s H vs Q E hr h => ?_), b, F.kp, m⟩
  · obtain ⟨v, t, h, rfl, _⟩ := h
    rfl
  obtain ⟨v, t, h, rfl, ht, hd, k⟩ := h
  refine ⟨_, pss_cons (ps_set (i := 2) sc_la.nd rfl (Or.inl rfl) (pv 0))
    (pss_cons (ps_for PassesOwn.never rfl (pi_range2 (by rfl) S.range (pa_cons pe_int (pa_cons (pe_op op_add (pg_ci ML) pe_int) pa_nil))) (pg_name (i := 3) sc_la.nd rfl (Or.inl rfl))
      (pss_cons (ps_set (i := 4) sc_la.nd rfl (Or.inl rfl) (pe_cal HE hr (pa_cons (pv 2) (pa_cons (pv 1) pa_nil))))
      (pss_cons (ps_if (pt_val (pe_ix ix_tup (pv 4) (pg_ci T.fires) (fun _ _ => rfl))) (pss_one (ps_ret (pv 3))) pss_nil)
      (pss_one (ps_set (i := 2) sc_la.nd rfl (Or.inl rfl) (pe_ix ix_tup (pv 4) (pg_ci T.left) (fun _ _ => rfl)))))))
    (pss_one (ps_ret pe_int))), ?_⟩
  refine ⟨_, rfl, _, _, rfl, rfl, 1, 2001, rfl, ⟨by decide, by decide, by decide, by decide⟩, for_range (lo := 1) (n := 2000) (fun i σ H' => ∃ (u : Trig) (v' : V) (a o : Option V), σ = [some v, some (.int (hc h)), some v', a, o] ∧ Same H H' ∧ TrAt H' v' u ∧ dep u ≤ 10 ∧ i ≤ 2000 ∧
      Hs03.soon h 2000 t = (Hs03.soon h (2000 - i) u).map fun n => n + i)
    ⟨t, v, none, none, rfl, fun _ _ e => e, ht, hd, Nat.zero_le _, by simp⟩ ?_ ?_⟩
  · rintro i σ H' hi ⟨u, v', a, o, rfl, sm, hu, du, hi', es⟩
    have en : 2000 - i = (2000 - (i + 1)) + 1 := by omega
    refine ⟨_, rfl, _, rfl, v', u, h, rfl, hu, du, fun r H1 s1 ⟨w1, o1, l1⟩ => ?_⟩
    refine ⟨_, rfl, r, _, _, _, rfl, rfl, SqT.of o1, at0, _, rfl, ifB (fun c => ?_) (fun c => ?_)⟩
    · refine ⟨_, rfl, ?_⟩
      rw [en, soon_fires c] at es
      have := k H1 (sm.trans s1)
      rw [soonN, es] at this
      have e : (((1 + i : Nat)) : Int) = 1 + (i : Int) := by omega
      rw [← e]
      exact this
    · obtain ⟨u2, e2⟩ := still c
      rw [e2] at l1
      refine ⟨_, rfl, r, _, _, _, rfl, rfl, SqT.of o1, at1, u2, w1, _, _, rfl, sm.trans s1, l1, Nat.le_trans (dep_hears u h u2 e2) du, by omega, ?_⟩
      rw [es, en, soon_still c e2, Option.map_map]
      congr 1
      funext n
      show n + 1 + i = n + (i + 1)
      omega
  · rintro σ H' ⟨u, v', a, o, rfl, sm, hu, du, hi', es⟩
    have := k H' sm
    rw [soonN, es] at this
    exact this
theorem sc_so : FnScope ["self", "key", "sort", "trigger"] ["self", "key", "sort"] (defScope s_Stretch_show_soon) := ⟨rfl, rfl, rfl, by decide +kernel, rfl, by decide +kernel, by decide +kernel⟩
theorem ok_show_soon (D : MDef K CS "show_soon" "Stretch.show_soon" s_Stretch_show_soon ["self", "key", "sort"]) (T : Cs mg) (S : STx K mg CS) (PT : PTx K mg C) (LA : Cal P w K mg base 23 "look_ahead" ["trigger", "heard"] spLA) : MCal P w K mg base 24 CS "show_soon" ["self", "key", "sort"] (spSoon CS C) := by
  obtain ⟨f, fd, F, b, m⟩ := D
  refine ⟨f, fd, F.ok sc_so (fun vs H Q E h => ?_) (fun cdv A outer s H vs Q E hr h => ?_), b, m⟩
  · obtain ⟨st, s, k, so, av, rfl, _⟩ := h
    rfl
  obtain ⟨st, sp, ky, so, av, rfl, BB, k⟩ := h
  refine ⟨_, pss_cons (ps_if (pt_cmp (pc_dnotin (hu_of hr) (pv 1) (pe_fld (pv 0) rfl)) (by with_unfolding_all rfl)) (pss_one (ps_ret (pe_lst (pa_cons (pe_un un_neg pe_int) pa_nil)))) pss_nil)
    (pss_cons (ps_if (pt_cmp (pc_gt (pv 2) (pg_ci T.tick))) (pss_one (ps_ret (pe_lst (pa_cons (pe_un un_neg pe_int) pa_nil)))) pss_nil)
    (pss_cons (ps_set (i := 3) sc_so.nd rfl (Or.inl rfl) (pe_fld (pe_dget (hu_of hr) (pe_fld (pv 0) rfl) (pv 1) (fun _ _ => rfl)) rfl))
    (pss_cons (ps_if (pt_cmp (pc_isN (pv 3))) (pss_one (ps_ret (pe_lst (pa_cons (pe_un un_neg pe_int) pa_nil)))) pss_nil)
    (pss_one (ps_ret (pe_lst (pa_cons (pe_cal LA hr (pa_cons (pv 3) (pa_cons (pv 2) pa_nil))) pa_nil))))))), ?_⟩
  obtain ⟨dx, tv, d, kvs, ks, Ad, B⟩ := BB
  have BB : StAt CS C av H st sp := ⟨dx, tv, d, kvs, ks, Ad, B⟩
  have hget : DGet H d (.int ky) (valV kvs (.inl (ky : Int))) := DGet.k (k := Sum.inl (ky : Int)) B.dict
  refine ⟨_, rfl, _, rfl, st, CS, dx, _, _, rfl, B.inst, S.cl, S.npiles, rfl, d, _, rfl, hget, _, rfl, ifNB (fun c1 => ?_) (fun c1 => ?_)⟩
  · refine ⟨_, rfl, sz, fun r hr' => k.refused BB (l := [-5]) ?_ hr'⟩
    simp only [Hs03.step, B.not_there c1]
  obtain ⟨x, ex, hg, P1⟩ := B.there c1
  have Pex := P1.ex
  obtain ⟨dxp, tvp, qp, h1, h2, h3, h4⟩ := Pex
  refine ⟨_, rfl, _, _, rfl, rfl, _, rfl, if2 (fun c2 => ?_) (fun c2 => ?_)⟩
  · refine ⟨_, rfl, sz, fun r hr' => k.refused BB (l := [-1]) ?_ hr'⟩
    simp only [Hs03.step, ex]
    rw [if_pos (by omega)]
  refine ⟨_, rfl, st, CS, dx, _, _, rfl, B.inst, S.cl, S.npiles, rfl, _, rfl, d, _, rfl, hg, Ad ky, C, dxp, _, _, rfl, h1, PT.cl, PT.ntrig, rfl, ?_⟩
  refine ⟨_, rfl, _, rfl, if2 (fun c3 => ?_) (fun c3 => ?_)⟩
  · rw [h2.non_iff] at c3
    refine ⟨_, rfl, sz, fun r hr' => k.refused BB (l := [-6]) ?_ hr'⟩
    simp only [Hs03.step, ex, c3]
    rw [if_neg (by omega)]
  · rw [h2.non_iff] at c3
    obtain ⟨t, et⟩ : ∃ t, x.trig = some t := by
      cases e : x.trig with
      | none => exact absurd e c3
      | some t => exact ⟨t, rfl⟩
    rw [et] at h2
    obtain ⟨h, eh⟩ : ∃ h : Hs03.H, h = if so = 0 then .event else .tick := ⟨_, rfl⟩
    have ehc : ((so : Nat) : Int) = hc h := by
      have : so = 0 ∨ so = 1 := by omega
      rcases this with rfl | rfl <;> rw [eh] <;> rfl
    have es : Hs03.step sp (.soon ky so) = (sp, [(soonN h t : Int)]) := by
      simp only [Hs03.step, ex, et]
      rw [if_neg (by omega), ← eh, soonN]
      cases Hs03.soon h 2000 t <;> rfl
    refine ⟨_, rfl, _, rfl, tvp, t, h, congrArg (fun z => [tvp, V.int z]) ehc, h2, P1.dep t et, fun H1 s1 => ⟨sz, fun r hr' => k.told BB s1 (l := [(soonN h t : Int)]) es hr' rfl⟩⟩
theorem sc_co : FnScope ["self"] ["self"] (defScope s_Stretch_show_counts) := ⟨rfl, rfl, rfl, by decide +kernel, rfl, by decide +kernel, by decide +kernel⟩
theorem ok_show_counts (D : MDef K CS "show_counts" "Stretch.show_counts" s_Stretch_show_counts ["self"]) (S : STx K mg CS) : MCal P w K mg base 1 CS "show_counts" ["self"] (spCounts CS C) := by
  obtain ⟨f, fd, F, b, m⟩ := D
  refine ⟨f, fd, F.ok sc_co (fun vs H Q E h => ?_) (fun cdv A outer s H vs Q E hr h => ?_), b, m⟩
  · obtain ⟨st, s, av, rfl, _⟩ := h
    rfl
  obtain ⟨st, sp, av, rfl, BB, k⟩ := h
  refine ⟨_, pss_one (ps_ret (pe_lst (pa_cons (pe_fld (pv 0) rfl) (pa_cons (pe_fld (pv 0) rfl) (pa_cons (pe_ifExp (pt_val (pe_fld (pv 0) rfl)) pe_int pe_int) pa_nil))))), ?_⟩
  obtain ⟨dx, tv, d, kvs, ks, Ad, B⟩ := BB
  have BB : StAt CS C av H st sp := ⟨dx, tv, d, kvs, ks, Ad, B⟩
  refine ⟨_, rfl, st, CS, dx, _, _, rfl, B.inst, S.cl, S.ntaken, rfl, _, rfl, st, CS, dx, _, _, rfl, B.inst, S.cl, S.nleft, rfl, _, rfl, st, CS, dx, _, _, rfl, B.inst, S.cl, S.nmp, rfl, _, rfl, ifB (fun c => ?_) (fun c => ?_)⟩
  · refine ⟨sz, fun r hr' => k.told BB (fun _ _ e => e) (l := Hs03.ints [sp.taken, sp.left, 1]) ?_ hr' (nv_ints [sp.taken, sp.left, 1])⟩
    simp only [Hs03.step, c]
    rfl
  · refine ⟨sz, fun r hr' => k.told BB (fun _ _ e => e) (l := Hs03.ints [sp.taken, sp.left, 0]) ?_ hr' (nv_ints [sp.taken, sp.left, 0])⟩
    simp only [Hs03.step, c]
    rfl
end
end M

end
section
set_option Elab.async false
set_option linter.all false
set_option maxRecDepth 100000
set_option maxHeartbeats 2000000
namespace M
/-! ### a list of calls: mathematics -/
def enc : Hs03.Call → List Nat
  | .begin_ m e l => 0 :: m :: e :: l.length :: l
  | .event k v => [1, k, v]
  | .ticks n => [2, n]
  | .mark => [3]
  | .key k => [4, k]
  | .keys => [5]
  | .soon k s => [6, k, s]
  | .counts => [7]
def plays (s : Hs03.St) : List Hs03.Call → List (List Int)
  | [] => []
  | c :: r => (Hs03.step s c).2 :: plays (Hs03.step s c).1 r
theorem row_some {n : Int} {r x t : List Int} (h : PyFlat.row (n :: r) = some (x, t)) : 0 ≤ n ∧ n.toNat ≤ r.length ∧ x = r.take n.toNat ∧ t = r.drop n.toNat := by
  rw [show PyFlat.row (n :: r) = (if 0 ≤ n ∧ n.toNat ≤ r.length then some (r.take n.toNat, r.drop n.toNat) else none) from rfl] at h
  split at h
  · rename_i c
    simp only [Option.some.injEq, Prod.mk.injEq] at h
    exact ⟨c.1, c.2, h.1.symm, h.2.symm⟩
  · cases h
theorem shape_cases {p : Int} {z : Nat × Nat} (h : PyHs03.shape p = some z) : (p = 0 ∧ z = (2, 1)) ∨ (p = 1 ∧ z = (2, 0)) ∨ (p = 2 ∧ z = (1, 0)) ∨ (p = 3 ∧ z = (0, 0)) ∨ (p = 4 ∧ z = (1, 0)) ∨ (p = 5 ∧ z = (0, 0)) ∨ (p = 6 ∧ z = (2, 0)) ∨ (p = 7 ∧ z = (0, 0)) := by
  unfold PyHs03.shape at h
  split at h
  · exact .inl ⟨by assumption, (Option.some.inj h).symm⟩
  split at h
  · exact .inr (.inl ⟨by assumption, (Option.some.inj h).symm⟩)
  split at h
  · exact .inr (.inr (.inl ⟨by assumption, (Option.some.inj h).symm⟩))
  split at h
  · exact .inr (.inr (.inr (.inl ⟨by assumption, (Option.some.inj h).symm⟩)))
  split at h
  · exact .inr (.inr (.inr (.inr (.inl ⟨by assumption, (Option.some.inj h).symm⟩))))
  split at h
  · exact .inr (.inr (.inr (.inr (.inr (.inl ⟨by assumption, (Option.some.inj h).symm⟩)))))
  split at h
  · exact .inr (.inr (.inr (.inr (.inr (.inr (.inl ⟨by assumption, (Option.some.inj h).symm⟩))))))
  split at h
  · exact .inr (.inr (.inr (.inr (.inr (.inr (.inr ⟨by assumption, (Option.some.inj h).symm⟩))))))
  · cases h
/-- one call off the list's beginning -/
theorem call_some {l t : List Int} {c : List (List Int)} (h : PyFlat.call PyHs03.shape l = some (c, t)) :
    (∃ m e r, c = [[0, m, e], r] ∧ l = 0 :: m :: e :: (r.length : Int) :: r ++ t) ∨ (∃ k v, c = [[1, k, v]] ∧ l = [1, k, v] ++ t) ∨ (∃ n, c = [[2, n]] ∧ l = [2, n] ++ t) ∨ (c = [[3]] ∧ l = [3] ++ t) ∨
    (∃ k, c = [[4, k]] ∧ l = [4, k] ++ t) ∨ (c = [[5]] ∧ l = [5] ++ t) ∨ (∃ k s, c = [[6, k, s]] ∧ l = [6, k, s] ++ t) ∨ (c = [[7]] ∧ l = [7] ++ t) := by
  cases l with
  | nil => cases h
  | cons p r =>
    cases hs : PyHs03.shape p with
    | none =>
      rw [show PyFlat.call PyHs03.shape (p :: r) = _ from PyFlat.call.eq_2 _ _ _] at h
      simp [hs] at h
    | some nk =>
      obtain ⟨n, k⟩ := nk
      rw [show PyFlat.call PyHs03.shape (p :: r) = _ from PyFlat.call.eq_2 _ _ _] at h
      simp only [hs] at h
      split at h
      · cases h
      · rename_i hl
        rcases shape_cases hs with ⟨rfl, e⟩ | ⟨rfl, e⟩ | ⟨rfl, e⟩ | ⟨rfl, e⟩ | ⟨rfl, e⟩ | ⟨rfl, e⟩ | ⟨rfl, e⟩ | ⟨rfl, e⟩ <;> cases e
        · match r, hl with
          | [], hl => simp at hl
          | [_], hl => simp at hl
          | [m, e], hl => simp [PyFlat.rows, PyFlat.row] at h
          | m :: e :: n :: r, hl =>
            have hd : (m :: e :: n :: r).drop 2 = n :: r := rfl
            rw [hd] at h
            unfold PyFlat.rows at h
            cases q : PyFlat.row (n :: r) with
            | none => simp [q] at h
            | some z =>
              obtain ⟨x, y⟩ := z
              obtain ⟨h1, h2, h3, h4⟩ := row_some q
              simp only [q, PyFlat.rows, Option.some.injEq, Prod.mk.injEq] at h
              obtain ⟨h5, h6⟩ := h
              subst h6
              refine .inl ⟨m, e, x, h5.symm, ?_⟩
              have hx : (x.length : Int) = n := by rw [h3, List.length_take]; omega
              rw [hx, h3, h4]
              simp
        · match r, hl with
          | [], hl => simp at hl
          | [_], hl => simp at hl
          | a :: b :: r, hl =>
            simp only [PyFlat.rows, Option.some.injEq, Prod.mk.injEq] at h
            obtain ⟨h5, h6⟩ := h
            subst h6
            exact .inr (.inl ⟨a, b, h5.symm, rfl⟩)
        · match r, hl with
          | [], hl => simp at hl
          | a :: r, hl =>
            simp only [PyFlat.rows, Option.some.injEq, Prod.mk.injEq] at h
            obtain ⟨h5, h6⟩ := h
            subst h6
            exact .inr (.inr (.inl ⟨a, h5.symm, rfl⟩))
        · simp only [PyFlat.rows, Option.some.injEq, Prod.mk.injEq] at h
          obtain ⟨h5, h6⟩ := h
          subst h6
          exact .inr (.inr (.inr (.inl ⟨h5.symm, rfl⟩)))
        · match r, hl with
          | [], hl => simp at hl
          | a :: r, hl =>
            simp only [PyFlat.rows, Option.some.injEq, Prod.mk.injEq] at h
            obtain ⟨h5, h6⟩ := h
            subst h6
            exact .inr (.inr (.inr (.inr (.inl ⟨a, h5.symm, rfl⟩))))
        · simp only [PyFlat.rows, Option.some.injEq, Prod.mk.injEq] at h
          obtain ⟨h5, h6⟩ := h
          subst h6
          exact .inr (.inr (.inr (.inr (.inr (.inl ⟨h5.symm, rfl⟩)))))
        · match r, hl with
          | [], hl => simp at hl
          | [_], hl => simp at hl
          | a :: b :: r, hl =>
            simp only [PyFlat.rows, Option.some.injEq, Prod.mk.injEq] at h
            obtain ⟨h5, h6⟩ := h
            subst h6
            exact .inr (.inr (.inr (.inr (.inr (.inr (.inl ⟨a, b, h5.symm, rfl⟩))))))
        · simp only [PyFlat.rows, Option.some.injEq, Prod.mk.injEq] at h
          obtain ⟨h5, h6⟩ := h
          subst h6
          exact .inr (.inr (.inr (.inr (.inr (.inr (.inr ⟨h5.symm, rfl⟩))))))
theorem nat_of {z : Int} (h : Hs03Neutral.nat z = true) : 0 ≤ z := by
  unfold Hs03Neutral.nat at h
  rw [Bool.and_eq_true, decide_eq_true_iff] at h
  exact h.1
/-- a call of the list, as a call of the specification -/
theorem call_enc {l t : List Int} {c : List (List Int)} (h : PyFlat.call PyHs03.shape l = some (c, t)) (ha : Hs03Neutral.asked1 (PyHs03.whole c) = true) :
    ∃ x : Hs03.Call, l.map Int.toNat = enc x ++ t.map Int.toNat ∧ ∀ s, Hs03Neutral.step s (PyHs03.whole c) = Hs03.step s x := by
  have key : ∀ x : Hs03.Call, Hs03Neutral.callIn ((PyHs03.whole c).map fun r => r.map Int.toNat) = some x → ∀ s, Hs03Neutral.step s (PyHs03.whole c) = Hs03.step s x := by
    intro x hx s
    have hn : ¬ (PyHs03.whole c).all (fun r => r.all Hs03Neutral.nat) = false := fun z => by
      unfold Hs03Neutral.asked1 Hs03Neutral.callOf at ha
      rw [if_pos z] at ha
      cases ha
    unfold Hs03Neutral.step Hs03Neutral.callOf
    rw [if_neg hn, hx]
  rcases call_some h with ⟨m, e, r, rfl, rfl⟩ | ⟨k, v, rfl, rfl⟩ | ⟨n, rfl, rfl⟩ | ⟨rfl, rfl⟩ | ⟨k, rfl, rfl⟩ | ⟨rfl, rfl⟩ | ⟨k, s, rfl, rfl⟩ | ⟨rfl, rfl⟩
  · refine ⟨.begin_ m.toNat e.toNat (r.map Int.toNat), ?_, key _ rfl⟩
    simp [enc]
  · exact ⟨.event k.toNat v.toNat, rfl, key _ rfl⟩
  · exact ⟨.ticks n.toNat, rfl, key _ rfl⟩
  · exact ⟨.mark, rfl, key _ rfl⟩
  · exact ⟨.key k.toNat, rfl, key _ rfl⟩
  · exact ⟨.keys, rfl, key _ rfl⟩
  · exact ⟨.soon k.toNat s.toNat, rfl, key _ rfl⟩
  · exact ⟨.counts, rfl, key _ rfl⟩
theorem calls_enc : ∀ (f : Nat) (l : List Int) (raw : List (List (List Int))), PyFlat.calls PyHs03.shape f l = some raw → (raw.map PyHs03.whole).all Hs03Neutral.asked1 = true →
    ∃ L : List Hs03.Call, l.map Int.toNat = L.flatMap enc ∧ L.length = raw.length ∧ ∀ s, PyFlat.played Hs03Neutral.step s (raw.map PyHs03.whole) = plays s L ∧ (PyFlat.told (plays s L)).length = Hs03Neutral.many s (raw.map PyHs03.whole) + raw.length
  | f, [], raw, h, _ => by
    have : raw = [] := by cases f <;> simpa [PyFlat.calls] using h.symm
    subst this
    exact ⟨[], rfl, rfl, fun s => ⟨rfl, rfl⟩⟩
  | 0, p :: r, raw, h, _ => by simp [PyFlat.calls] at h
  | f + 1, p :: r, raw, h, ha => by
    unfold PyFlat.calls at h
    cases q : PyFlat.call PyHs03.shape (p :: r) with
    | none => simp [q] at h
    | some z =>
      obtain ⟨c, t⟩ := z
      cases q2 : PyFlat.calls PyHs03.shape f t with
      | none => simp [q, q2] at h
      | some cs =>
        simp only [q, q2, Option.some.injEq] at h
        subst h
        rw [List.map_cons, List.all_cons, Bool.and_eq_true] at ha
        obtain ⟨x, e1, e2⟩ := call_enc q ha.1
        obtain ⟨L, e3, e4, e5⟩ := calls_enc f t cs q2 ha.2
        refine ⟨x :: L, ?_, by rw [List.length_cons, List.length_cons, e4], fun s => ?_⟩
        · rw [e1, e3, List.flatMap_cons]
        · obtain ⟨e6, e7⟩ := e5 (Hs03.step s x).1
          refine ⟨?_, ?_⟩
          · show (Hs03Neutral.step s (PyHs03.whole c)).2 :: PyFlat.played Hs03Neutral.step (Hs03Neutral.step s (PyHs03.whole c)).1 _ = (Hs03.step s x).2 :: plays (Hs03.step s x).1 L
            rw [e2, e6]
          · show (((Hs03.step s x).2.length : Int) :: (Hs03.step s x).2 ++ PyFlat.told (plays (Hs03.step s x).1 L)).length = (Hs03Neutral.step s (PyHs03.whole c)).2.length + Hs03Neutral.many (Hs03Neutral.step s (PyHs03.whole c)).1 (cs.map PyHs03.whole) + (cs.length + 1)
            rw [e2, List.length_append, e7, List.length_cons]
            omega
/-- what is asked of a list of calls, and what is due -/
theorem asked_enc {l : List Int} (h : PyHs03.answers_asked l = true) : ∃ L : List Hs03.Call, l.map Int.toNat = L.flatMap enc ∧ PyHs03.answers l = PyFlat.told (plays Hs03.init L) ∧ (PyFlat.told (plays Hs03.init L)).length ≤ 1000060 := by
  unfold PyHs03.answers_asked at h
  cases q : PyFlat.calls PyHs03.shape l.length l with
  | none => simp [q] at h
  | some raw =>
    simp only [q, Bool.and_eq_true] at h
    obtain ⟨⟨⟨⟨_, h2⟩, _⟩, h4⟩, _⟩ := h
    unfold Hs03Neutral.asked at h4
    simp only [Bool.and_eq_true, decide_eq_true_iff] at h4
    obtain ⟨h5, h6, h7, h8⟩ := h4
    obtain ⟨L, e1, e2, e3⟩ := calls_enc l.length l raw q h5
    obtain ⟨e4, e5⟩ := e3 Hs03.init
    refine ⟨L, e1, ?_, ?_⟩
    · unfold PyHs03.answers PyHs03.calls
      rw [q]
      show PyFlat.told (PyFlat.played Hs03Neutral.step Hs03.init (raw.map PyHs03.whole)) = _
      rw [e4]
    · rw [e5]
      rw [List.length_map] at h7
      have h8 : Hs03Neutral.many Hs03.init (raw.map PyHs03.whole) ≤ 1000000 := h8
      omega
end M

end
section
set_option Elab.async false
set_option linter.all false
set_option maxRecDepth 100000
set_option maxHeartbeats 2000000
namespace M
open PySem PySem.Spec PyProof.Rows L2
theorem enc_pos (x : Hs03.Call) : 0 < (enc x).length := by cases x <;> simp [enc]
theorem cut_mid {L : List Nat} {i n : Nat} {z w : Int} (hz : z = (i : Int)) (hw : w = ((i + n : Nat) : Int)) (h : i + n ≤ L.length) : cutV (nv L) (some z) (some w) = nv ((L.drop i).take n) := by
  subst hz hw
  unfold cutV
  rw [HT.sIx_nat, HT.sIx_nat, nv_len, Nat.min_eq_left (show i ≤ L.length by omega), Nat.min_eq_left h, Nat.add_sub_cancel_left]
  simp only [nv, List.map_take, List.map_drop]
/-- the place that a loop has come to -/
def placeOf (n : Nat) : Option (Option V) → Nat
  | some (some (.int i)) => n - i.toNat
  | _ => 0
def spSize (K : PySem.W.Frag) : Sp := fun vs H Q _ => ∃ (a : Addr) (L : List Nat) (i : Nat) (x : Hs03.Call) (t : List Nat), vs = [.ref a, .int i] ∧ SqL K H a (nv L) ∧ L.drop i = enc x ++ t ∧ Q (.int (enc x).length) H
def spAC (K : PySem.W.Frag) (CS C : Addr) : Sp := fun vs H Q _ => ∃ (st c : Addr) (s : Hs03.St) (x : Hs03.Call) (av : Addr → Prop), vs = [.ref st, .ref c] ∧ SqL K H c (nv (enc x)) ∧ StAt CS C av H st s ∧ AvOk av H ∧ Post CS C av H st s x Q
def spAns (K : PySem.W.Frag) : Sp := fun vs H Q _ => ∃ (a : Addr) (L : List Nat) (X : List Hs03.Call), vs = [.ref a] ∧ SqL K H a (nv L) ∧ L = X.flatMap enc ∧ (PyFlat.told (plays Hs03.init X)).length ≤ 1000060 ∧
  ∀ (H' : Hp) (p : Addr), H' p = some (.lst ((PyFlat.told (plays Hs03.init X)).map V.int)) → Q (.ref p) H'
section
variable {P : Program} {w : World} {K : PySem.W.Frag} {mg : Str → Option Value} {base : Heap} {CS C : Addr}
theorem sc_as : FnScope ["calls", "stretch", "answered", "at", "behind", "answer"] ["calls"] (defScope s_answers) := ⟨rfl, rfl, rfl, by decide +kernel, rfl, by decide +kernel, by decide +kernel⟩
theorem ok_answers {f fI : Addr} {fd fdI : FuncData} (F : Fun K "answers" "answers" s_answers f fd) (T : Cs mg) (MK : Mk K CS fI) (FI : FnOk P w K mg base CX0 23 fI fdI ["self"] (spSInit CS C)) (bI : Binds K fdI ["self"] []) (mS : mg "Stretch" = some (.ref CS))
    (SZ : Cal P w K mg base 1 "size_of_call" ["calls", "at"] (spSize K)) (AC : Cal P w K mg base 40 "answer_call" ["stretch", "call"] (spAC K CS C)) : FnOk P w K mg base CX0 41 f fd ["calls"] (spAns K) := by
  refine F.ok sc_as (fun vs H Q E h => ?_) (fun cdv A outer s H vs Q E hr h => ?_)
  · obtain ⟨a, L, X, rfl, _⟩ := h
    rfl
  obtain ⟨a, L, X, rfl, hS, eL, hT, k⟩ := h
  have hr1 : Room 1 _ := hr.mono (show 1 ≤ 40 by decide)
  refine ⟨_, pss_cons (ps_set (i := 1) sc_as.nd rfl (Or.inl rfl) (pe_make0 MK FI (hr.mono (show 24 ≤ 40 by decide)) (by rfl) mS bI .nil pass0))
    (pss_cons (ps_set (i := 2) sc_as.nd rfl (Or.inl rfl) (pe_lst pa_nil))
    (pss_cons (ps_set (i := 3) sc_as.nd rfl (Or.inl rfl) pe_int)
    (pss_cons (ps_while PassesOwn.never (pt_cmp (pc_lt (pv 3) (pe_len T.len (pv 0))))
      (pss_cons (ps_set (i := 4) sc_as.nd rfl (Or.inl rfl) (pe_op op_add (pv 3) (pe_cal SZ hr1 (pa_cons (pv 0) (pa_cons (pv 3) pa_nil)))))
      (pss_cons (ps_set (i := 5) sc_as.nd rfl (Or.inl rfl) (pe_cal AC hr (pa_cons (pv 1) (pa_cons (pe_slice sl_list (pv 0) (po_some (pv 3)) (po_some (pv 4))) pa_nil))))
      (pss_cons (ps_expr (pe_bm PySem.F.plainAttrs_list PySem.F.slot_list_append PySem.F.type_list_append mt_append (pv 2) (pa_cons (pe_len T.len (pv 5)) pa_nil)))
      (pss_cons (ps_expr (pe_bm PySem.F.plainAttrs_list PySem.F.slot_list_extend PySem.F.type_list_extend mt_extend (pv 2) (pa_cons (pv 5) pa_nil)))
      (pss_one (ps_set (i := 3) sc_as.nd rfl (Or.inl rfl) (pv 4))))))))
    (pss_one (ps_ret (pv 2)))))), ?_⟩
  refine fun st dst n1 n2 n3 => ⟨st, dst, rfl, upd_same, fun H1 bu1 B1 => ⟨rfl, ?_⟩⟩
  have sm1 : Same H H1 := Same.made n1 n2 bu1
  refine ⟨sz, fun l nl => ?_⟩
  have s2 := same_new nl (.lst [])
  have hl0 := nv_len L
  refine while_by (fun σ H' => ∃ (i : Nat) (s : Hs03.St) (Y : List Int) (X' : List Hs03.Call) (v4 v5 : Option V), σ = [some (.ref a), some (.ref st), some (.ref l), some (.int i), v4, v5] ∧ Fra H H' ∧ H' l = some (.lst (Y.map V.int)) ∧
      Y ++ PyFlat.told (plays s X') = PyFlat.told (plays Hs03.init X) ∧ L.drop i = X'.flatMap enc ∧ i ≤ L.length ∧ StAt CS C (fun b => b = l) H' st s)
    (fun σ H' => placeOf L.length (σ[3]?)) ⟨0, Hs03.init, [], X, none, none, rfl, Fra.of (sm1.trans s2), upd_same, rfl, eL, Nat.zero_le _, ?_⟩ ?_ ?_
  · exact (B1.keep (av' := fun _ => False) (fun b o e _ => e) (fun _ _ _ z => z.elim)).grow nl s2 |>.keep (fun b o e _ => e) (fun _ _ _ z => .inl z)
  · rintro σ H' ⟨i, sp, Y, X', v4, v5, rfl, fH, hL, eY, eX, hi, B⟩
    have hS' := fH.seq hS
    refine ⟨_, rfl, _, rfl, a, _, rfl, .inl hS', _, _, rfl, rfl, _, rfl, if2 (fun c => ?_) (fun c => ?_)⟩
    · rw [hl0] at c
      cases X' with
      | nil =>
        rw [List.flatMap_nil] at eX
        have := List.drop_eq_nil_iff.mp eX
        omega
      | cons x X' =>
        rw [List.flatMap_cons] at eX
        have hlen : i + (enc x).length ≤ L.length := by
          have := congrArg List.length eX
          rw [List.length_drop, List.length_append] at this
          omega
        have hpos := enc_pos x
        refine ⟨_, rfl, _, rfl, _, rfl, a, L, i, x, _, rfl, hS', eX, _, _, rfl, rfl, ?_⟩
        have ecut : cutV (nv L) (some (i : Int)) (some ((i : Int) + ((enc x).length : Nat))) = nv (enc x) := by
          rw [cut_mid rfl (show (i : Int) + ((enc x).length : Nat) = ((i + (enc x).length : Nat) : Int) by omega) hlen, eX, List.take_left']
          rfl
        refine ⟨_, rfl, _, rfl, _, rfl, _, rfl, _, rfl, _, rfl, a, _, rfl, hS', fun c nc => ?_⟩
        rw [ecut]
        have s3 := same_new nc (.lst (nv (enc x)))
        have B3 := B.keep (av' := fun b => b = l) (fun b o e _ => s3 b o e) (fun _ _ _ z => z)
        refine ⟨st, c, sp, x, fun b => b = l, rfl, SqL.of upd_same, B3, ?_, fun H4 r f4 t4 n4 e4 B4 => ?_⟩
        · rintro b rfl
          exact ⟨_, s3 _ _ hL⟩
        have hL4 := f4 _ _ (s3 _ _ hL) rfl
        have hlr : l ≠ r := ne_of_none (s3 _ _ hL) n4
        have hYl : Y.length + ((Hs03.step sp x).2.length + 1) ≤ 1000060 := by
          have := congrArg List.length eY
          show Y.length + ((Hs03.step sp x).2.length + 1) ≤ 1000060
          rw [show plays sp (x :: X') = (Hs03.step sp x).2 :: plays (Hs03.step sp x).1 X' from rfl] at this
          rw [show PyFlat.told ((Hs03.step sp x).2 :: plays (Hs03.step sp x).1 X') = (((Hs03.step sp x).2.length : Int) :: (Hs03.step sp x).2) ++ PyFlat.told (plays (Hs03.step sp x).1 X') from rfl] at this
          rw [List.length_append, List.length_append, List.length_cons] at this
          omega
        refine ⟨_, rfl, .inl ⟨rfl, _, SqL.of hL4⟩, _, rfl, r, _, rfl, .inl (SqL.of e4), l, _, _, rfl, rfl, hL4, szl (by rw [List.length_map]; omega), ?_⟩
        have e4' : (upd H4 l (.lst (Y.map V.int ++ [.int (((Hs03.step sp x).2.map V.int).length : Nat)]))) r = some (.lst ((Hs03.step sp x).2.map V.int)) := by rw [upd_ne (fun z => hlr z.symm)]; exact e4
        refine ⟨_, rfl, .inl ⟨rfl, _, SqL.of upd_same⟩, _, rfl, l, r, _, _, rfl, rfl, upd_same, e4', sz (by rw [List.length_append, List.length_map, List.length_map, List.length_singleton]; omega), ?_⟩
        rw [upd_upd]
        refine ⟨_, rfl, ⟨i + (enc x).length, (Hs03.step sp x).1, Y ++ (((Hs03.step sp x).2.length : Int) :: (Hs03.step sp x).2), X', _, _, rfl, ?_, ?_, ?_, ?_, hlen, ?_⟩, ?_⟩
        · intro b o e n
          rw [upd_ne (ne_of_none e (sm1.free nl))]
          exact f4 _ _ (s3 _ _ (fH _ _ e n)) n
        · rw [upd_same, List.map_append, List.map_cons, List.append_assoc, List.length_map]
          rfl
        · rw [← eY, List.append_assoc]
          rfl
        · rw [← List.drop_drop, eX, List.drop_left']
          rfl
        · exact B4.keep (fun b o e z => by
            rw [upd_ne]
            · exact e
            · rintro rfl
              rw [hL4] at e
              cases e
              exact z _ rfl (.inr rfl)) (fun _ _ _ z => .inr z)
        · show L.length - (((i + (enc x).length : Nat) : Int)).toNat < L.length - ((i : Int)).toNat
          omega
    · rw [hl0] at c
      have hi' : i = L.length := by omega
      rw [hi', List.drop_length] at eX
      have hX : X' = [] := by
        cases X' with
        | nil => rfl
        | cons x X' =>
          rw [List.flatMap_cons] at eX
          have h1 := congrArg List.length eX
          have h2 := enc_pos x
          rw [List.length_append, List.length_nil] at h1
          omega
      subst hX
      refine ⟨_, rfl, k H' l ?_⟩
      rw [hL, ← eY]
      show some (HO.lst (Y.map V.int)) = some (HO.lst ((Y ++ []).map V.int))
      rw [List.append_nil]
  · rintro σ H Q Q' hq ⟨v, e, v2, e2, p, ys, e3, hs, i, j, e4, e5, c, e6, q⟩
    exact ⟨v, e, v2, e2, p, ys, e3, hs, i, j, e4, e5, c, e6, hq _ _ q⟩
end
end M

end
section
set_option Elab.async false
set_option linter.all false
set_option maxRecDepth 100000
set_option maxHeartbeats 2000000
namespace M
open PySem PySem.Spec PyProof.Rows L2
/-- a call's place, and how many numbers it has without its row -/
def hd0 : Hs03.Call → Nat
  | .begin_ _ _ _ => 0
  | .event _ _ => 1
  | .ticks _ => 2
  | .mark => 3
  | .key _ => 4
  | .keys => 5
  | .soon _ _ => 6
  | .counts => 7
def sz0 : Hs03.Call → Nat
  | .begin_ _ _ _ => 4
  | .event _ _ => 3
  | .ticks _ => 2
  | .mark => 1
  | .key _ => 2
  | .keys => 1
  | .soon _ _ => 3
  | .counts => 1
def sizes : List Nat := [4, 3, 2, 1, 2, 1, 3, 1]
theorem enc_hd (x : Hs03.Call) : ∃ r, enc x = hd0 x :: r := by cases x <;> exact ⟨_, rfl⟩
theorem sizes_at (x : Hs03.Call) : sizes[hd0 x]? = some (sz0 x) := by cases x <;> rfl
theorem enc_row {x : Hs03.Call} (h : hd0 x = 0) : ∃ m e l, x = .begin_ m e l := by cases x <;> first | exact ⟨_, _, _, rfl⟩ | cases h
theorem enc_len {x : Hs03.Call} (h : ¬ hd0 x = 0) : (enc x).length = sz0 x := by cases x <;> first | rfl | exact absurd rfl h
section
variable {P : Program} {w : World} {K : PySem.W.Frag} {mg : Str → Option Value} {base : Heap} {CS C : Addr}
theorem sc_sz : FnScope ["calls", "at", "size"] ["calls", "at"] (defScope s_size_of_call) := ⟨rfl, rfl, rfl, by decide +kernel, rfl, by decide +kernel, by decide +kernel⟩
theorem ok_size_of_call (D : DefAt K mg "size_of_call" s_size_of_call ["calls", "at"]) (hz : ∃ sa, mg "SIZES" = some (.ref sa) ∧ ∀ H : Hp, SqT K H sa (nv sizes)) (kb : CI mg "BEGIN_CALL" 0) : Cal P w K mg base 1 "size_of_call" ["calls", "at"] (spSize K) := by
  obtain ⟨f, fd, F, b, m⟩ := D
  obtain ⟨sa, ms, hsz⟩ := hz
  refine ⟨f, fd, F.ok sc_sz (fun vs H Q E h => ?_) (fun cdv A outer s H vs Q E hr h => ?_), b, F.kp, m⟩
  · obtain ⟨a, L, i, x, t, rfl, _⟩ := h
    rfl
  obtain ⟨a, L, i, x, t, rfl, hS, eL, q⟩ := h
  refine ⟨_, pss_cons (ps_set (i := 2) sc_sz.nd rfl (Or.inl rfl) (pe_ix ix_tup (pe_glob (v := .ref sa) (by rfl) ms rfl) (pe_ix ix_list (pv 0) (pv 1) (fun _ _ => rfl)) (fun _ _ => rfl)))
    (pss_cons (ps_if (pt_cmp (pc_eqI (pe_ix ix_list (pv 0) (pv 1) (fun _ _ => rfl)) (pg_ci kb))) (pss_one (ps_ret (pe_op op_add (pv 2) (pe_ix ix_list (pv 0) (pe_op op_add (pv 1) pe_int) (fun _ _ => rfl))))) pss_nil)
    (pss_one (ps_ret (pv 2)))), ?_⟩
  obtain ⟨r, er⟩ := enc_hd x
  obtain ⟨h1, h2, h3⟩ := drop_at (show L.drop i = hd0 x :: (r ++ t) by rw [eL, er]; rfl)
  refine ⟨_, rfl, _, rfl, a, _, _, _, rfl, rfl, hS, nv_at rfl h1, sa, _, _, _, rfl, rfl, hsz H, nv_at rfl (sizes_at x), ?_⟩
  refine ⟨_, rfl, _, rfl, a, _, _, _, rfl, rfl, hS, nv_at rfl h1, _, _, rfl, rfl, _, rfl, if2 (fun c => ?_) (fun c => ?_)⟩
  · obtain ⟨md, em, l, rfl⟩ := enc_row (show hd0 x = 0 by omega)
    have h4 : L[i + 3]? = some l.length := by
      have : (L.drop i)[3]? = some l.length := by rw [eL]; rfl
      rw [List.getElem?_drop] at this
      exact this
    refine ⟨_, rfl, _, rfl, _, rfl, _, _, rfl, rfl, a, _, _, _, rfl, rfl, hS, nv_at (by omega) h4, _, _, rfl, rfl, ?_⟩
    have e : ((sz0 (.begin_ md em l) : Nat) : Int) + (l.length : Int) = ((enc (.begin_ md em l)).length : Nat) := by
      simp only [sz0, enc, List.length_cons]
      omega
    rw [← e] at q
    exact q
  · refine ⟨_, rfl, ?_⟩
    rw [enc_len (show ¬ hd0 x = 0 by omega)] at q
    exact q
end
end M

end
section
set_option Elab.async false
set_option linter.all false
set_option maxRecDepth 100000
set_option maxHeartbeats 2000000
namespace M
open PySem PySem.Spec PyProof.Rows L2
/-- a call's promise, a little later -/
theorem Post.later {CS C : Addr} {av : Addr → Prop} {H H1 : Hp} {st : Addr} {s : Hs03.St} {c : Hs03.Call} {Q : VK} (p : Post CS C av H st s c Q) (sm : Same H H1) : Post CS C av H1 st s c Q :=
  fun H' r f t n e B => p H' r ((Fra.of sm).trans f) ((Trk.same sm).trans t) (sm.free n) e B
theorem cut4 {a b c d : Nat} {l : List Nat} : cutV (nv (a :: b :: c :: d :: l)) (some 4) none = nv l := by
  unfold cutV
  rw [show (some (4 : Int)) = some ((4 : Nat) : Int) from rfl, HT.sIx_nat, HT.sIx_none, nv_len, Nat.min_eq_left (by simp only [List.length_cons]; omega)]
  show (nv l).take _ = nv l
  refine List.take_of_length_le ?_
  rw [nv_len]
  simp only [List.length_cons]
  omega
structure CallNs (mg : Str → Option Value) : Prop where
  begin_ : CI mg "BEGIN_CALL" 0
  event : CI mg "EVENT_CALL" 1
  ticks : CI mg "TICKS_CALL" 2
  mark : CI mg "MARK_CALL" 3
  key : CI mg "KEY_CALL" 4
  keys : CI mg "KEYS_CALL" 5
  soon : CI mg "SOON_CALL" 6
structure Calls (P : Program) (w : World) (K : PySem.W.Frag) (mg : Str → Option Value) (base : Heap) (CS C : Addr) : Prop where
  begin_ : MCal P w K mg base 39 CS "begin" ["self", "mode", "empties", "numbers"] (spBegin K CS C)
  event : MCal P w K mg base 39 CS "take_event" ["self", "key", "value"] (spEvent CS C)
  ticks : MCal P w K mg base 39 CS "pass_ticks" ["self", "ticks"] (spTicks CS C)
  mark : MCal P w K mg base 39 CS "pass_mark" ["self"] (spMark CS C)
  key : MCal P w K mg base 39 CS "show_key" ["self", "key"] (spKey CS C)
  keys : MCal P w K mg base 39 CS "show_keys" ["self"] (spKeys CS C)
  soon : MCal P w K mg base 39 CS "show_soon" ["self", "key", "sort"] (spSoon CS C)
  counts : MCal P w K mg base 39 CS "show_counts" ["self"] (spCounts CS C)
section
variable {P : Program} {w : World} {K : PySem.W.Frag} {mg : Str → Option Value} {base : Heap} {CS C : Addr}
theorem sc_ac : FnScope ["stretch", "call"] ["stretch", "call"] (defScope s_answer_call) := ⟨rfl, rfl, rfl, by decide +kernel, rfl, by decide +kernel, by decide +kernel⟩
theorem ok_answer_call (D : DefAt K mg "answer_call" s_answer_call ["stretch", "call"]) (S : STx K mg CS) (N : CallNs mg) (Y : Calls P w K mg base CS C) : Cal P w K mg base 40 "answer_call" ["stretch", "call"] (spAC K CS C) := by
  obtain ⟨f, fd, F, b, m⟩ := D
  refine ⟨f, fd, F.ok sc_ac (fun vs H Q E h => ?_) (fun cdv A outer s H vs Q E hr h => ?_), b, F.kp, m⟩
  · obtain ⟨st, c, s, x, av, rfl, _⟩ := h
    rfl
  obtain ⟨st, c, sp, x, av, rfl, hS, BB, hav, k⟩ := h
  refine ⟨_, pss_cons (ps_if (pt_cmp (pc_eqI (pe_ix ix_list (pv 1) pe_int (fun _ _ => rfl)) (pg_ci N.begin_))) (pss_one (ps_ret (pe_mcal (pv 0) S.cl Y.begin_ hr (pa_cons (pe_ix ix_list (pv 1) pe_int (fun _ _ => rfl)) (pa_cons (pe_ix ix_list (pv 1) pe_int (fun _ _ => rfl)) (pa_cons (pe_slice sl_list (pv 1) (po_some pe_int) po_none) pa_nil)))))) pss_nil)
    (pss_cons (ps_if (pt_cmp (pc_eqI (pe_ix ix_list (pv 1) pe_int (fun _ _ => rfl)) (pg_ci N.event))) (pss_one (ps_ret (pe_mcal (pv 0) S.cl Y.event hr (pa_cons (pe_ix ix_list (pv 1) pe_int (fun _ _ => rfl)) (pa_cons (pe_ix ix_list (pv 1) pe_int (fun _ _ => rfl)) pa_nil))))) pss_nil)
    (pss_cons (ps_if (pt_cmp (pc_eqI (pe_ix ix_list (pv 1) pe_int (fun _ _ => rfl)) (pg_ci N.ticks))) (pss_one (ps_ret (pe_mcal (pv 0) S.cl Y.ticks hr (pa_cons (pe_ix ix_list (pv 1) pe_int (fun _ _ => rfl)) pa_nil)))) pss_nil)
    (pss_cons (ps_if (pt_cmp (pc_eqI (pe_ix ix_list (pv 1) pe_int (fun _ _ => rfl)) (pg_ci N.mark))) (pss_one (ps_ret (pe_mcal0 (pv 0) S.cl Y.mark hr))) pss_nil)
    (pss_cons (ps_if (pt_cmp (pc_eqI (pe_ix ix_list (pv 1) pe_int (fun _ _ => rfl)) (pg_ci N.key))) (pss_one (ps_ret (pe_mcal (pv 0) S.cl Y.key hr (pa_cons (pe_ix ix_list (pv 1) pe_int (fun _ _ => rfl)) pa_nil)))) pss_nil)
    (pss_cons (ps_if (pt_cmp (pc_eqI (pe_ix ix_list (pv 1) pe_int (fun _ _ => rfl)) (pg_ci N.keys))) (pss_one (ps_ret (pe_mcal0 (pv 0) S.cl Y.keys hr))) pss_nil)
    (pss_cons (ps_if (pt_cmp (pc_eqI (pe_ix ix_list (pv 1) pe_int (fun _ _ => rfl)) (pg_ci N.soon))) (pss_one (ps_ret (pe_mcal (pv 0) S.cl Y.soon hr (pa_cons (pe_ix ix_list (pv 1) pe_int (fun _ _ => rfl)) (pa_cons (pe_ix ix_list (pv 1) pe_int (fun _ _ => rfl)) pa_nil))))) pss_nil)
    (pss_one (ps_ret (pe_mcal0 (pv 0) S.cl Y.counts hr))))))))), ?_⟩
  obtain ⟨dx, tv, d, kvs, ks, Ad, B⟩ := BB
  have BB : StAt CS C av H st sp := ⟨dx, tv, d, kvs, ks, Ad, B⟩
  cases x with
  | begin_ md em l =>
    refine ⟨_, rfl, c, _, _, _, rfl, rfl, hS, at0, _, _, rfl, rfl, _, rfl, ifT (by decide) ?_⟩
    refine ⟨_, rfl, st, dx, _, rfl, B.inst, rfl, _, rfl, c, _, _, _, rfl, rfl, hS, at1, _, rfl, c, _, _, _, rfl, rfl, hS, at2, _, rfl, _, rfl, c, _, rfl, hS, fun p hp => ?_⟩
    have s1 := same_new hp (.lst (nv l))
    rw [show cutV (nv (enc (.begin_ md em l))) (some 4) none = nv l from cut4]
    exact ⟨st, p, sp, md, em, l, av, rfl, SqL.of upd_same, BB.keep (fun b o e _ => s1 b o e) (fun _ _ _ z => z), hav.trk (Trk.same s1), k.later s1⟩
  | event ky v =>
    refine ⟨_, rfl, c, _, _, _, rfl, rfl, hS, at0, _, _, rfl, rfl, _, rfl, ifF (by decide) ?_⟩
    refine ⟨_, rfl, c, _, _, _, rfl, rfl, hS, at0, _, _, rfl, rfl, _, rfl, ifT (by decide) ?_⟩
    exact ⟨_, rfl, st, dx, _, rfl, B.inst, rfl, _, rfl, c, _, _, _, rfl, rfl, hS, at1, _, rfl, c, _, _, _, rfl, rfl, hS, at2, st, sp, ky, v, av, rfl, BB, hav, k⟩
  | ticks n =>
    refine ⟨_, rfl, c, _, _, _, rfl, rfl, hS, at0, _, _, rfl, rfl, _, rfl, ifF (by decide) ?_⟩
    refine ⟨_, rfl, c, _, _, _, rfl, rfl, hS, at0, _, _, rfl, rfl, _, rfl, ifF (by decide) ?_⟩
    refine ⟨_, rfl, c, _, _, _, rfl, rfl, hS, at0, _, _, rfl, rfl, _, rfl, ifT (by decide) ?_⟩
    exact ⟨_, rfl, st, dx, _, rfl, B.inst, rfl, _, rfl, c, _, _, _, rfl, rfl, hS, at1, st, sp, n, av, rfl, BB, hav, k⟩
  | mark =>
    refine ⟨_, rfl, c, _, _, _, rfl, rfl, hS, at0, _, _, rfl, rfl, _, rfl, ifF (by decide) ?_⟩
    refine ⟨_, rfl, c, _, _, _, rfl, rfl, hS, at0, _, _, rfl, rfl, _, rfl, ifF (by decide) ?_⟩
    refine ⟨_, rfl, c, _, _, _, rfl, rfl, hS, at0, _, _, rfl, rfl, _, rfl, ifF (by decide) ?_⟩
    refine ⟨_, rfl, c, _, _, _, rfl, rfl, hS, at0, _, _, rfl, rfl, _, rfl, ifT (by decide) ?_⟩
    exact ⟨_, rfl, st, dx, _, rfl, B.inst, rfl, st, sp, av, rfl, BB, hav, k⟩
  | key ky =>
    refine ⟨_, rfl, c, _, _, _, rfl, rfl, hS, at0, _, _, rfl, rfl, _, rfl, ifF (by decide) ?_⟩
    refine ⟨_, rfl, c, _, _, _, rfl, rfl, hS, at0, _, _, rfl, rfl, _, rfl, ifF (by decide) ?_⟩
    refine ⟨_, rfl, c, _, _, _, rfl, rfl, hS, at0, _, _, rfl, rfl, _, rfl, ifF (by decide) ?_⟩
    refine ⟨_, rfl, c, _, _, _, rfl, rfl, hS, at0, _, _, rfl, rfl, _, rfl, ifF (by decide) ?_⟩
    refine ⟨_, rfl, c, _, _, _, rfl, rfl, hS, at0, _, _, rfl, rfl, _, rfl, ifT (by decide) ?_⟩
    exact ⟨_, rfl, st, dx, _, rfl, B.inst, rfl, _, rfl, c, _, _, _, rfl, rfl, hS, at1, st, sp, ky, av, rfl, BB, k⟩
  | keys =>
    refine ⟨_, rfl, c, _, _, _, rfl, rfl, hS, at0, _, _, rfl, rfl, _, rfl, ifF (by decide) ?_⟩
    refine ⟨_, rfl, c, _, _, _, rfl, rfl, hS, at0, _, _, rfl, rfl, _, rfl, ifF (by decide) ?_⟩
    refine ⟨_, rfl, c, _, _, _, rfl, rfl, hS, at0, _, _, rfl, rfl, _, rfl, ifF (by decide) ?_⟩
    refine ⟨_, rfl, c, _, _, _, rfl, rfl, hS, at0, _, _, rfl, rfl, _, rfl, ifF (by decide) ?_⟩
    refine ⟨_, rfl, c, _, _, _, rfl, rfl, hS, at0, _, _, rfl, rfl, _, rfl, ifF (by decide) ?_⟩
    refine ⟨_, rfl, c, _, _, _, rfl, rfl, hS, at0, _, _, rfl, rfl, _, rfl, ifT (by decide) ?_⟩
    exact ⟨_, rfl, st, dx, _, rfl, B.inst, rfl, st, sp, av, rfl, BB, k⟩
  | soon ky so =>
    refine ⟨_, rfl, c, _, _, _, rfl, rfl, hS, at0, _, _, rfl, rfl, _, rfl, ifF (by decide) ?_⟩
    refine ⟨_, rfl, c, _, _, _, rfl, rfl, hS, at0, _, _, rfl, rfl, _, rfl, ifF (by decide) ?_⟩
    refine ⟨_, rfl, c, _, _, _, rfl, rfl, hS, at0, _, _, rfl, rfl, _, rfl, ifF (by decide) ?_⟩
    refine ⟨_, rfl, c, _, _, _, rfl, rfl, hS, at0, _, _, rfl, rfl, _, rfl, ifF (by decide) ?_⟩
    refine ⟨_, rfl, c, _, _, _, rfl, rfl, hS, at0, _, _, rfl, rfl, _, rfl, ifF (by decide) ?_⟩
    refine ⟨_, rfl, c, _, _, _, rfl, rfl, hS, at0, _, _, rfl, rfl, _, rfl, ifF (by decide) ?_⟩
    refine ⟨_, rfl, c, _, _, _, rfl, rfl, hS, at0, _, _, rfl, rfl, _, rfl, ifT (by decide) ?_⟩
    exact ⟨_, rfl, st, dx, _, rfl, B.inst, rfl, _, rfl, c, _, _, _, rfl, rfl, hS, at1, _, rfl, c, _, _, _, rfl, rfl, hS, at2, st, sp, ky, so, av, rfl, BB, k⟩
  | counts =>
    refine ⟨_, rfl, c, _, _, _, rfl, rfl, hS, at0, _, _, rfl, rfl, _, rfl, ifF (by decide) ?_⟩
    refine ⟨_, rfl, c, _, _, _, rfl, rfl, hS, at0, _, _, rfl, rfl, _, rfl, ifF (by decide) ?_⟩
    refine ⟨_, rfl, c, _, _, _, rfl, rfl, hS, at0, _, _, rfl, rfl, _, rfl, ifF (by decide) ?_⟩
    refine ⟨_, rfl, c, _, _, _, rfl, rfl, hS, at0, _, _, rfl, rfl, _, rfl, ifF (by decide) ?_⟩
    refine ⟨_, rfl, c, _, _, _, rfl, rfl, hS, at0, _, _, rfl, rfl, _, rfl, ifF (by decide) ?_⟩
    refine ⟨_, rfl, c, _, _, _, rfl, rfl, hS, at0, _, _, rfl, rfl, _, rfl, ifF (by decide) ?_⟩
    refine ⟨_, rfl, c, _, _, _, rfl, rfl, hS, at0, _, _, rfl, rfl, _, rfl, ifF (by decide) ?_⟩
    exact ⟨_, rfl, st, dx, _, rfl, B.inst, rfl, st, sp, av, rfl, BB, k⟩
end
end M

end
section
set_option Elab.async false
set_option linter.all false
set_option maxRecDepth 100000
set_option maxHeartbeats 2000000
namespace M
open PySem PySem.Spec PyProof.Rows L2
open PySem.W (Codec)
/-- a request: the list is one of the specification's calls, the answer is the one that is due -/
theorem request {K : PySem.W.Frag} {H : Hp} {p : Addr} {l : List Int} (hs : SqL K H p (l.map V.int)) (hb : l.all (Codec.inInt 0 4294967295) = true) (hask : PyHs03.answers_asked l = true) :
    spAns K [.ref p] H (fun v H' => Dw K H' v (.list ((PyHs03.answers l).map PySem.W.WData.int))) fun _ _ _ => False := by
  obtain ⟨X, e1, e2, e3⟩ := asked_enc hask
  have hnv : l.map V.int = nv (l.map Int.toNat) := by
    rw [nv, List.map_map]
    refine List.map_congr_left fun x hx => ?_
    have := List.all_eq_true.mp hb x hx
    have h0 : 0 ≤ x := (Codec.inInt_iff.mp this).1
    show V.int x = V.int ((x.toNat : Nat) : Int)
    rw [Int.toNat_of_nonneg h0]
  rw [hnv] at hs
  refine ⟨p, _, X, rfl, hs, e1, e3, fun H' r hr => ?_⟩
  rw [e2]
  exact .lst (SqL.of hr) (dw_ints _)
set_option maxHeartbeats 8000000 in
theorem all_mk {P : Program} {w : World} {K : PySem.W.Frag} {h : Heap} {mg : Str → Option Value} (X : K.In h) (G : h.Ns mainGlobals mg) {fa c_Pile c_Stretch f_Pile_init f_Pile_take f_Pile_tell f_Pile_make_pane f_Pile_show f_Stretch_init f_Stretch_start_anew f_Stretch_begin f_Stretch_take_event f_Stretch_pass_ticks f_Stretch_pass_mark f_Stretch_show_key f_Stretch_show_keys f_Stretch_show_soon f_Stretch_show_counts f_Stretch_let_all_hear f_Stretch_let_hear f_Stretch_when_heard f_read_trigger f_read_at f_read_counted f_read_again f_read_two f_hear f_hear_simple f_count_down f_start_delay f_hear_again f_hear_turn f_hear_once f_join_first f_join_both f_join_until f_look_ahead f_answers f_size_of_call f_answer_call f_count_changes f_SIZES : Addr} {od_Pile_init od_Pile_take od_Pile_tell od_Pile_make_pane od_Pile_show od_Stretch_init od_Stretch_start_anew od_Stretch_begin od_Stretch_take_event od_Stretch_pass_ticks od_Stretch_pass_mark od_Stretch_show_key od_Stretch_show_keys od_Stretch_show_soon od_Stretch_show_counts od_Stretch_let_all_hear od_Stretch_let_hear od_Stretch_when_heard od_read_trigger od_read_at od_read_counted od_read_again od_read_two od_hear od_hear_simple od_count_down od_start_delay od_hear_again od_hear_turn od_hear_once od_join_first od_join_both od_join_until od_look_ahead od_answers od_size_of_call od_answer_call od_count_changes an_Pile_init an_Pile_take an_Pile_tell an_Pile_make_pane an_Pile_show an_Stretch_init an_Stretch_start_anew an_Stretch_begin an_Stretch_take_event an_Stretch_pass_ticks an_Stretch_pass_mark an_Stretch_show_key an_Stretch_show_keys an_Stretch_show_soon an_Stretch_show_counts an_Stretch_let_all_hear an_Stretch_let_hear an_Stretch_when_heard an_read_trigger an_read_at an_read_counted an_read_again an_read_two an_hear an_hear_simple an_count_down an_start_delay an_hear_again an_hear_turn an_hear_once an_join_first an_join_both an_join_until an_look_ahead an_answers an_size_of_call an_answer_call an_count_changes od_SIZES : Option Addr} {sl_Pile_init sl_Pile_take sl_Pile_tell sl_Pile_make_pane sl_Pile_show sl_Stretch_init sl_Stretch_start_anew sl_Stretch_begin sl_Stretch_take_event sl_Stretch_pass_ticks sl_Stretch_pass_mark sl_Stretch_show_key sl_Stretch_show_keys sl_Stretch_show_soon sl_Stretch_show_counts sl_Stretch_let_all_hear sl_Stretch_let_hear sl_Stretch_when_heard sl_read_trigger sl_read_at sl_read_counted sl_read_again sl_read_two sl_hear sl_hear_simple sl_count_down sl_start_delay sl_hear_again sl_hear_turn sl_hear_once sl_join_first sl_join_both sl_join_until sl_look_ahead sl_answers sl_size_of_call sl_answer_call sl_count_changes sl_SIZES : Array (Option Value)} {oc_Pile_init kV_Pile_init dc_Pile_init pm_Pile_init cd_Pile_init ct_Pile_init oc_Pile_take kV_Pile_take dc_Pile_take pm_Pile_take cd_Pile_take ct_Pile_take oc_Pile_tell kV_Pile_tell dc_Pile_tell pm_Pile_tell cd_Pile_tell ct_Pile_tell oc_Pile_make_pane kV_Pile_make_pane dc_Pile_make_pane pm_Pile_make_pane cd_Pile_make_pane ct_Pile_make_pane oc_Pile_show kV_Pile_show dc_Pile_show pm_Pile_show cd_Pile_show ct_Pile_show oc_Stretch_init kV_Stretch_init dc_Stretch_init pm_Stretch_init cd_Stretch_init ct_Stretch_init oc_Stretch_start_anew kV_Stretch_start_anew dc_Stretch_start_anew pm_Stretch_start_anew cd_Stretch_start_anew ct_Stretch_start_anew oc_Stretch_begin kV_Stretch_begin dc_Stretch_begin pm_Stretch_begin cd_Stretch_begin ct_Stretch_begin oc_Stretch_take_event kV_Stretch_take_event dc_Stretch_take_event pm_Stretch_take_event cd_Stretch_take_event ct_Stretch_take_event oc_Stretch_pass_ticks kV_Stretch_pass_ticks dc_Stretch_pass_ticks pm_Stretch_pass_ticks cd_Stretch_pass_ticks ct_Stretch_pass_ticks oc_Stretch_pass_mark kV_Stretch_pass_mark dc_Stretch_pass_mark pm_Stretch_pass_mark cd_Stretch_pass_mark ct_Stretch_pass_mark oc_Stretch_show_key kV_Stretch_show_key dc_Stretch_show_key pm_Stretch_show_key cd_Stretch_show_key ct_Stretch_show_key oc_Stretch_show_keys kV_Stretch_show_keys dc_Stretch_show_keys pm_Stretch_show_keys cd_Stretch_show_keys ct_Stretch_show_keys oc_Stretch_show_soon kV_Stretch_show_soon dc_Stretch_show_soon pm_Stretch_show_soon cd_Stretch_show_soon ct_Stretch_show_soon oc_Stretch_show_counts kV_Stretch_show_counts dc_Stretch_show_counts pm_Stretch_show_counts cd_Stretch_show_counts ct_Stretch_show_counts oc_Stretch_let_all_hear kV_Stretch_let_all_hear dc_Stretch_let_all_hear pm_Stretch_let_all_hear cd_Stretch_let_all_hear ct_Stretch_let_all_hear oc_Stretch_let_hear kV_Stretch_let_hear dc_Stretch_let_hear pm_Stretch_let_hear cd_Stretch_let_hear ct_Stretch_let_hear oc_Stretch_when_heard kV_Stretch_when_heard dc_Stretch_when_heard pm_Stretch_when_heard cd_Stretch_when_heard ct_Stretch_when_heard oc_read_trigger kV_read_trigger dc_read_trigger pm_read_trigger cd_read_trigger ct_read_trigger oc_read_at kV_read_at dc_read_at pm_read_at cd_read_at ct_read_at oc_read_counted kV_read_counted dc_read_counted pm_read_counted cd_read_counted ct_read_counted oc_read_again kV_read_again dc_read_again pm_read_again cd_read_again ct_read_again oc_read_two kV_read_two dc_read_two pm_read_two cd_read_two ct_read_two oc_hear kV_hear dc_hear pm_hear cd_hear ct_hear oc_hear_simple kV_hear_simple dc_hear_simple pm_hear_simple cd_hear_simple ct_hear_simple oc_count_down kV_count_down dc_count_down pm_count_down cd_count_down ct_count_down oc_start_delay kV_start_delay dc_start_delay pm_start_delay cd_start_delay ct_start_delay oc_hear_again kV_hear_again dc_hear_again pm_hear_again cd_hear_again ct_hear_again oc_hear_turn kV_hear_turn dc_hear_turn pm_hear_turn cd_hear_turn ct_hear_turn oc_hear_once kV_hear_once dc_hear_once pm_hear_once cd_hear_once ct_hear_once oc_join_first kV_join_first dc_join_first pm_join_first cd_join_first ct_join_first oc_join_both kV_join_both dc_join_both pm_join_both cd_join_both ct_join_both oc_join_until kV_join_until dc_join_until pm_join_until cd_join_until ct_join_until oc_look_ahead kV_look_ahead dc_look_ahead pm_look_ahead cd_look_ahead ct_look_ahead oc_answers kV_answers dc_answers pm_answers cd_answers ct_answers oc_size_of_call kV_size_of_call dc_size_of_call pm_size_of_call cd_size_of_call ct_size_of_call oc_answer_call kV_answer_call dc_answer_call pm_answer_call cd_answer_call ct_answer_call oc_count_changes kV_count_changes dc_count_changes pm_count_changes cd_count_changes ct_count_changes : Value} {t_NEW_ONES t_ALL_WITH_TAKING_BACK t_TAKEN_BACK t_TOLD t_EVENT t_TICK t_MARK t_NTH t_DELAY t_AT_MARK t_NEVER t_AGAIN t_FIRST t_BOTH t_TURN t_UNTIL t_DELAYING t_ONCE t_FIRES t_LEFT t_MOST_NUMBERS t_DEEPEST t_MOST_COUNTED t_MOST_LOOKED_AHEAD t_BEGIN_CALL t_EVENT_CALL t_TICKS_CALL t_MARK_CALL t_KEY_CALL t_KEYS_CALL t_SOON_CALL t_EARLY t_BY_THE_MARK t_LATE t_LAST_KEY t_MOST_VALUE t_MOST_TICKS t_NUMBERS_OF_A_CHANGE u_SIZES_0 u_SIZES_1 u_SIZES_2 u_SIZES_3 u_SIZES_4 u_SIZES_5 u_SIZES_6 u_SIZES_7 : Tok} {n_SIZES : Nat} (hfa : mg "answers" = some (.ref fa))
    (a_Pile : PySem.W.nsIn K mainGlobals "Pile" = some (some (.ref c_Pile)))
    (a_Pile_init : PySem.W.findIn K (.ref c_Pile) "__init__" = some (some (.ref f_Pile_init))) (i_Pile_init : PySem.W.isFn K (.ref f_Pile_init) = true)
    (l_Pile_init : K.lookup f_Pile_init = some ⟨oc_Pile_init, od_Pile_init, .func (PySem.W.fnOf "__init__" "Pile.__init__" (defArgs s_Pile_init) (defBody s_Pile_init) (defScope s_Pile_init) .none kV_Pile_init dc_Pile_init pm_Pile_init an_Pile_init cd_Pile_init ct_Pile_init), sl_Pile_init⟩) (c_Pile_init : PySem.W.codeIn K cd_Pile_init "Pile.__init__" = true) (k_Pile_init : PySem.W.keepIn K (.ref f_Pile_init) = true)
    (a_Pile_take : PySem.W.findIn K (.ref c_Pile) "take" = some (some (.ref f_Pile_take))) (i_Pile_take : PySem.W.isFn K (.ref f_Pile_take) = true)
    (l_Pile_take : K.lookup f_Pile_take = some ⟨oc_Pile_take, od_Pile_take, .func (PySem.W.fnOf "take" "Pile.take" (defArgs s_Pile_take) (defBody s_Pile_take) (defScope s_Pile_take) .none kV_Pile_take dc_Pile_take pm_Pile_take an_Pile_take cd_Pile_take ct_Pile_take), sl_Pile_take⟩) (c_Pile_take : PySem.W.codeIn K cd_Pile_take "Pile.take" = true) (k_Pile_take : PySem.W.keepIn K (.ref f_Pile_take) = true)
    (a_Pile_tell : PySem.W.findIn K (.ref c_Pile) "tell" = some (some (.ref f_Pile_tell))) (i_Pile_tell : PySem.W.isFn K (.ref f_Pile_tell) = true)
    (l_Pile_tell : K.lookup f_Pile_tell = some ⟨oc_Pile_tell, od_Pile_tell, .func (PySem.W.fnOf "tell" "Pile.tell" (defArgs s_Pile_tell) (defBody s_Pile_tell) (defScope s_Pile_tell) .none kV_Pile_tell dc_Pile_tell pm_Pile_tell an_Pile_tell cd_Pile_tell ct_Pile_tell), sl_Pile_tell⟩) (c_Pile_tell : PySem.W.codeIn K cd_Pile_tell "Pile.tell" = true) (k_Pile_tell : PySem.W.keepIn K (.ref f_Pile_tell) = true)
    (a_Pile_make_pane : PySem.W.findIn K (.ref c_Pile) "make_pane" = some (some (.ref f_Pile_make_pane))) (i_Pile_make_pane : PySem.W.isFn K (.ref f_Pile_make_pane) = true)
    (l_Pile_make_pane : K.lookup f_Pile_make_pane = some ⟨oc_Pile_make_pane, od_Pile_make_pane, .func (PySem.W.fnOf "make_pane" "Pile.make_pane" (defArgs s_Pile_make_pane) (defBody s_Pile_make_pane) (defScope s_Pile_make_pane) .none kV_Pile_make_pane dc_Pile_make_pane pm_Pile_make_pane an_Pile_make_pane cd_Pile_make_pane ct_Pile_make_pane), sl_Pile_make_pane⟩) (c_Pile_make_pane : PySem.W.codeIn K cd_Pile_make_pane "Pile.make_pane" = true) (k_Pile_make_pane : PySem.W.keepIn K (.ref f_Pile_make_pane) = true)
    (a_Pile_show : PySem.W.findIn K (.ref c_Pile) "show" = some (some (.ref f_Pile_show))) (i_Pile_show : PySem.W.isFn K (.ref f_Pile_show) = true)
    (l_Pile_show : K.lookup f_Pile_show = some ⟨oc_Pile_show, od_Pile_show, .func (PySem.W.fnOf "show" "Pile.show" (defArgs s_Pile_show) (defBody s_Pile_show) (defScope s_Pile_show) .none kV_Pile_show dc_Pile_show pm_Pile_show an_Pile_show cd_Pile_show ct_Pile_show), sl_Pile_show⟩) (c_Pile_show : PySem.W.codeIn K cd_Pile_show "Pile.show" = true) (k_Pile_show : PySem.W.keepIn K (.ref f_Pile_show) = true)
    (pg_Pile : PySem.W.plainGet K c_Pile Str.empty = true) (hd_Pile : PySem.W.hasDictIn K c_Pile = true) (po_Pile : PySem.W.plainOver K c_Pile = true) (sa_Pile : PySem.W.findIn K (.ref c_Pile) "__setattr__" = some (some (.builtin "object.__setattr__"))) (mk_Pile : PySem.W.makesIn K c_Pile = true) (kc_Pile : PySem.W.keepIn K (.ref c_Pile) = true)
    (na_Pile_key : PySem.W.findIn K (.ref c_Pile) "key" = some none)
    (na_Pile_trigger : PySem.W.findIn K (.ref c_Pile) "trigger" = some none)
    (na_Pile_new_count : PySem.W.findIn K (.ref c_Pile) "new_count" = some none)
    (na_Pile_new_sum : PySem.W.findIn K (.ref c_Pile) "new_sum" = some none)
    (na_Pile_all_count : PySem.W.findIn K (.ref c_Pile) "all_count" = some none)
    (na_Pile_all_sum : PySem.W.findIn K (.ref c_Pile) "all_sum" = some none)
    (na_Pile_panes : PySem.W.findIn K (.ref c_Pile) "panes" = some none)
    (na_Pile_last_pane : PySem.W.findIn K (.ref c_Pile) "last_pane" = some none)
    (a_Stretch : PySem.W.nsIn K mainGlobals "Stretch" = some (some (.ref c_Stretch)))
    (a_Stretch_init : PySem.W.findIn K (.ref c_Stretch) "__init__" = some (some (.ref f_Stretch_init))) (i_Stretch_init : PySem.W.isFn K (.ref f_Stretch_init) = true)
    (l_Stretch_init : K.lookup f_Stretch_init = some ⟨oc_Stretch_init, od_Stretch_init, .func (PySem.W.fnOf "__init__" "Stretch.__init__" (defArgs s_Stretch_init) (defBody s_Stretch_init) (defScope s_Stretch_init) .none kV_Stretch_init dc_Stretch_init pm_Stretch_init an_Stretch_init cd_Stretch_init ct_Stretch_init), sl_Stretch_init⟩) (c_Stretch_init : PySem.W.codeIn K cd_Stretch_init "Stretch.__init__" = true) (k_Stretch_init : PySem.W.keepIn K (.ref f_Stretch_init) = true)
    (a_Stretch_start_anew : PySem.W.findIn K (.ref c_Stretch) "start_anew" = some (some (.ref f_Stretch_start_anew))) (i_Stretch_start_anew : PySem.W.isFn K (.ref f_Stretch_start_anew) = true)
    (l_Stretch_start_anew : K.lookup f_Stretch_start_anew = some ⟨oc_Stretch_start_anew, od_Stretch_start_anew, .func (PySem.W.fnOf "start_anew" "Stretch.start_anew" (defArgs s_Stretch_start_anew) (defBody s_Stretch_start_anew) (defScope s_Stretch_start_anew) .none kV_Stretch_start_anew dc_Stretch_start_anew pm_Stretch_start_anew an_Stretch_start_anew cd_Stretch_start_anew ct_Stretch_start_anew), sl_Stretch_start_anew⟩) (c_Stretch_start_anew : PySem.W.codeIn K cd_Stretch_start_anew "Stretch.start_anew" = true) (k_Stretch_start_anew : PySem.W.keepIn K (.ref f_Stretch_start_anew) = true)
    (a_Stretch_begin : PySem.W.findIn K (.ref c_Stretch) "begin" = some (some (.ref f_Stretch_begin))) (i_Stretch_begin : PySem.W.isFn K (.ref f_Stretch_begin) = true)
    (l_Stretch_begin : K.lookup f_Stretch_begin = some ⟨oc_Stretch_begin, od_Stretch_begin, .func (PySem.W.fnOf "begin" "Stretch.begin" (defArgs s_Stretch_begin) (defBody s_Stretch_begin) (defScope s_Stretch_begin) .none kV_Stretch_begin dc_Stretch_begin pm_Stretch_begin an_Stretch_begin cd_Stretch_begin ct_Stretch_begin), sl_Stretch_begin⟩) (c_Stretch_begin : PySem.W.codeIn K cd_Stretch_begin "Stretch.begin" = true) (k_Stretch_begin : PySem.W.keepIn K (.ref f_Stretch_begin) = true)
    (a_Stretch_take_event : PySem.W.findIn K (.ref c_Stretch) "take_event" = some (some (.ref f_Stretch_take_event))) (i_Stretch_take_event : PySem.W.isFn K (.ref f_Stretch_take_event) = true)
    (l_Stretch_take_event : K.lookup f_Stretch_take_event = some ⟨oc_Stretch_take_event, od_Stretch_take_event, .func (PySem.W.fnOf "take_event" "Stretch.take_event" (defArgs s_Stretch_take_event) (defBody s_Stretch_take_event) (defScope s_Stretch_take_event) .none kV_Stretch_take_event dc_Stretch_take_event pm_Stretch_take_event an_Stretch_take_event cd_Stretch_take_event ct_Stretch_take_event), sl_Stretch_take_event⟩) (c_Stretch_take_event : PySem.W.codeIn K cd_Stretch_take_event "Stretch.take_event" = true) (k_Stretch_take_event : PySem.W.keepIn K (.ref f_Stretch_take_event) = true)
    (a_Stretch_pass_ticks : PySem.W.findIn K (.ref c_Stretch) "pass_ticks" = some (some (.ref f_Stretch_pass_ticks))) (i_Stretch_pass_ticks : PySem.W.isFn K (.ref f_Stretch_pass_ticks) = true)
    (l_Stretch_pass_ticks : K.lookup f_Stretch_pass_ticks = some ⟨oc_Stretch_pass_ticks, od_Stretch_pass_ticks, .func (PySem.W.fnOf "pass_ticks" "Stretch.pass_ticks" (defArgs s_Stretch_pass_ticks) (defBody s_Stretch_pass_ticks) (defScope s_Stretch_pass_ticks) .none kV_Stretch_pass_ticks dc_Stretch_pass_ticks pm_Stretch_pass_ticks an_Stretch_pass_ticks cd_Stretch_pass_ticks ct_Stretch_pass_ticks), sl_Stretch_pass_ticks⟩) (c_Stretch_pass_ticks : PySem.W.codeIn K cd_Stretch_pass_ticks "Stretch.pass_ticks" = true) (k_Stretch_pass_ticks : PySem.W.keepIn K (.ref f_Stretch_pass_ticks) = true)
    (a_Stretch_pass_mark : PySem.W.findIn K (.ref c_Stretch) "pass_mark" = some (some (.ref f_Stretch_pass_mark))) (i_Stretch_pass_mark : PySem.W.isFn K (.ref f_Stretch_pass_mark) = true)
    (l_Stretch_pass_mark : K.lookup f_Stretch_pass_mark = some ⟨oc_Stretch_pass_mark, od_Stretch_pass_mark, .func (PySem.W.fnOf "pass_mark" "Stretch.pass_mark" (defArgs s_Stretch_pass_mark) (defBody s_Stretch_pass_mark) (defScope s_Stretch_pass_mark) .none kV_Stretch_pass_mark dc_Stretch_pass_mark pm_Stretch_pass_mark an_Stretch_pass_mark cd_Stretch_pass_mark ct_Stretch_pass_mark), sl_Stretch_pass_mark⟩) (c_Stretch_pass_mark : PySem.W.codeIn K cd_Stretch_pass_mark "Stretch.pass_mark" = true) (k_Stretch_pass_mark : PySem.W.keepIn K (.ref f_Stretch_pass_mark) = true)
    (a_Stretch_show_key : PySem.W.findIn K (.ref c_Stretch) "show_key" = some (some (.ref f_Stretch_show_key))) (i_Stretch_show_key : PySem.W.isFn K (.ref f_Stretch_show_key) = true)
    (l_Stretch_show_key : K.lookup f_Stretch_show_key = some ⟨oc_Stretch_show_key, od_Stretch_show_key, .func (PySem.W.fnOf "show_key" "Stretch.show_key" (defArgs s_Stretch_show_key) (defBody s_Stretch_show_key) (defScope s_Stretch_show_key) .none kV_Stretch_show_key dc_Stretch_show_key pm_Stretch_show_key an_Stretch_show_key cd_Stretch_show_key ct_Stretch_show_key), sl_Stretch_show_key⟩) (c_Stretch_show_key : PySem.W.codeIn K cd_Stretch_show_key "Stretch.show_key" = true) (k_Stretch_show_key : PySem.W.keepIn K (.ref f_Stretch_show_key) = true)
    (a_Stretch_show_keys : PySem.W.findIn K (.ref c_Stretch) "show_keys" = some (some (.ref f_Stretch_show_keys))) (i_Stretch_show_keys : PySem.W.isFn K (.ref f_Stretch_show_keys) = true)
    (l_Stretch_show_keys : K.lookup f_Stretch_show_keys = some ⟨oc_Stretch_show_keys, od_Stretch_show_keys, .func (PySem.W.fnOf "show_keys" "Stretch.show_keys" (defArgs s_Stretch_show_keys) (defBody s_Stretch_show_keys) (defScope s_Stretch_show_keys) .none kV_Stretch_show_keys dc_Stretch_show_keys pm_Stretch_show_keys an_Stretch_show_keys cd_Stretch_show_keys ct_Stretch_show_keys), sl_Stretch_show_keys⟩) (c_Stretch_show_keys : PySem.W.codeIn K cd_Stretch_show_keys "Stretch.show_keys" = true) (k_Stretch_show_keys : PySem.W.keepIn K (.ref f_Stretch_show_keys) = true)
    (a_Stretch_show_soon : PySem.W.findIn K (.ref c_Stretch) "show_soon" = some (some (.ref f_Stretch_show_soon))) (i_Stretch_show_soon : PySem.W.isFn K (.ref f_Stretch_show_soon) = true)
    (l_Stretch_show_soon : K.lookup f_Stretch_show_soon = some ⟨oc_Stretch_show_soon, od_Stretch_show_soon, .func (PySem.W.fnOf "show_soon" "Stretch.show_soon" (defArgs s_Stretch_show_soon) (defBody s_Stretch_show_soon) (defScope s_Stretch_show_soon) .none kV_Stretch_show_soon dc_Stretch_show_soon pm_Stretch_show_soon an_Stretch_show_soon cd_Stretch_show_soon ct_Stretch_show_soon), sl_Stretch_show_soon⟩) (c_Stretch_show_soon : PySem.W.codeIn K cd_Stretch_show_soon "Stretch.show_soon" = true) (k_Stretch_show_soon : PySem.W.keepIn K (.ref f_Stretch_show_soon) = true)
    (a_Stretch_show_counts : PySem.W.findIn K (.ref c_Stretch) "show_counts" = some (some (.ref f_Stretch_show_counts))) (i_Stretch_show_counts : PySem.W.isFn K (.ref f_Stretch_show_counts) = true)
    (l_Stretch_show_counts : K.lookup f_Stretch_show_counts = some ⟨oc_Stretch_show_counts, od_Stretch_show_counts, .func (PySem.W.fnOf "show_counts" "Stretch.show_counts" (defArgs s_Stretch_show_counts) (defBody s_Stretch_show_counts) (defScope s_Stretch_show_counts) .none kV_Stretch_show_counts dc_Stretch_show_counts pm_Stretch_show_counts an_Stretch_show_counts cd_Stretch_show_counts ct_Stretch_show_counts), sl_Stretch_show_counts⟩) (c_Stretch_show_counts : PySem.W.codeIn K cd_Stretch_show_counts "Stretch.show_counts" = true) (k_Stretch_show_counts : PySem.W.keepIn K (.ref f_Stretch_show_counts) = true)
    (a_Stretch_let_all_hear : PySem.W.findIn K (.ref c_Stretch) "let_all_hear" = some (some (.ref f_Stretch_let_all_hear))) (i_Stretch_let_all_hear : PySem.W.isFn K (.ref f_Stretch_let_all_hear) = true)
    (l_Stretch_let_all_hear : K.lookup f_Stretch_let_all_hear = some ⟨oc_Stretch_let_all_hear, od_Stretch_let_all_hear, .func (PySem.W.fnOf "let_all_hear" "Stretch.let_all_hear" (defArgs s_Stretch_let_all_hear) (defBody s_Stretch_let_all_hear) (defScope s_Stretch_let_all_hear) .none kV_Stretch_let_all_hear dc_Stretch_let_all_hear pm_Stretch_let_all_hear an_Stretch_let_all_hear cd_Stretch_let_all_hear ct_Stretch_let_all_hear), sl_Stretch_let_all_hear⟩) (c_Stretch_let_all_hear : PySem.W.codeIn K cd_Stretch_let_all_hear "Stretch.let_all_hear" = true) (k_Stretch_let_all_hear : PySem.W.keepIn K (.ref f_Stretch_let_all_hear) = true)
    (a_Stretch_let_hear : PySem.W.findIn K (.ref c_Stretch) "let_hear" = some (some (.ref f_Stretch_let_hear))) (i_Stretch_let_hear : PySem.W.isFn K (.ref f_Stretch_let_hear) = true)
    (l_Stretch_let_hear : K.lookup f_Stretch_let_hear = some ⟨oc_Stretch_let_hear, od_Stretch_let_hear, .func (PySem.W.fnOf "let_hear" "Stretch.let_hear" (defArgs s_Stretch_let_hear) (defBody s_Stretch_let_hear) (defScope s_Stretch_let_hear) .none kV_Stretch_let_hear dc_Stretch_let_hear pm_Stretch_let_hear an_Stretch_let_hear cd_Stretch_let_hear ct_Stretch_let_hear), sl_Stretch_let_hear⟩) (c_Stretch_let_hear : PySem.W.codeIn K cd_Stretch_let_hear "Stretch.let_hear" = true) (k_Stretch_let_hear : PySem.W.keepIn K (.ref f_Stretch_let_hear) = true)
    (a_Stretch_when_heard : PySem.W.findIn K (.ref c_Stretch) "when_heard" = some (some (.ref f_Stretch_when_heard))) (i_Stretch_when_heard : PySem.W.isFn K (.ref f_Stretch_when_heard) = true)
    (l_Stretch_when_heard : K.lookup f_Stretch_when_heard = some ⟨oc_Stretch_when_heard, od_Stretch_when_heard, .func (PySem.W.fnOf "when_heard" "Stretch.when_heard" (defArgs s_Stretch_when_heard) (defBody s_Stretch_when_heard) (defScope s_Stretch_when_heard) .none kV_Stretch_when_heard dc_Stretch_when_heard pm_Stretch_when_heard an_Stretch_when_heard cd_Stretch_when_heard ct_Stretch_when_heard), sl_Stretch_when_heard⟩) (c_Stretch_when_heard : PySem.W.codeIn K cd_Stretch_when_heard "Stretch.when_heard" = true) (k_Stretch_when_heard : PySem.W.keepIn K (.ref f_Stretch_when_heard) = true)
    (pg_Stretch : PySem.W.plainGet K c_Stretch Str.empty = true) (hd_Stretch : PySem.W.hasDictIn K c_Stretch = true) (po_Stretch : PySem.W.plainOver K c_Stretch = true) (sa_Stretch : PySem.W.findIn K (.ref c_Stretch) "__setattr__" = some (some (.builtin "object.__setattr__"))) (mk_Stretch : PySem.W.makesIn K c_Stretch = true) (kc_Stretch : PySem.W.keepIn K (.ref c_Stretch) = true)
    (na_Stretch_mode : PySem.W.findIn K (.ref c_Stretch) "mode" = some none)
    (na_Stretch_empties : PySem.W.findIn K (.ref c_Stretch) "empties" = some none)
    (na_Stretch_trigger : PySem.W.findIn K (.ref c_Stretch) "trigger" = some none)
    (na_Stretch_mark_passed : PySem.W.findIn K (.ref c_Stretch) "mark_passed" = some none)
    (na_Stretch_piles : PySem.W.findIn K (.ref c_Stretch) "piles" = some none)
    (na_Stretch_taken : PySem.W.findIn K (.ref c_Stretch) "taken" = some none)
    (na_Stretch_not_taken : PySem.W.findIn K (.ref c_Stretch) "not_taken" = some none)
    (a_read_trigger : PySem.W.nsIn K mainGlobals "read_trigger" = some (some (.ref f_read_trigger)))
    (l_read_trigger : K.lookup f_read_trigger = some ⟨oc_read_trigger, od_read_trigger, .func (PySem.W.fnOf "read_trigger" "read_trigger" (defArgs s_read_trigger) (defBody s_read_trigger) (defScope s_read_trigger) .none kV_read_trigger dc_read_trigger pm_read_trigger an_read_trigger cd_read_trigger ct_read_trigger), sl_read_trigger⟩) (c_read_trigger : PySem.W.codeIn K cd_read_trigger "read_trigger" = true) (k_read_trigger : PySem.W.keepIn K (.ref f_read_trigger) = true)
    (a_read_at : PySem.W.nsIn K mainGlobals "read_at" = some (some (.ref f_read_at)))
    (l_read_at : K.lookup f_read_at = some ⟨oc_read_at, od_read_at, .func (PySem.W.fnOf "read_at" "read_at" (defArgs s_read_at) (defBody s_read_at) (defScope s_read_at) .none kV_read_at dc_read_at pm_read_at an_read_at cd_read_at ct_read_at), sl_read_at⟩) (c_read_at : PySem.W.codeIn K cd_read_at "read_at" = true) (k_read_at : PySem.W.keepIn K (.ref f_read_at) = true)
    (a_read_counted : PySem.W.nsIn K mainGlobals "read_counted" = some (some (.ref f_read_counted)))
    (l_read_counted : K.lookup f_read_counted = some ⟨oc_read_counted, od_read_counted, .func (PySem.W.fnOf "read_counted" "read_counted" (defArgs s_read_counted) (defBody s_read_counted) (defScope s_read_counted) .none kV_read_counted dc_read_counted pm_read_counted an_read_counted cd_read_counted ct_read_counted), sl_read_counted⟩) (c_read_counted : PySem.W.codeIn K cd_read_counted "read_counted" = true) (k_read_counted : PySem.W.keepIn K (.ref f_read_counted) = true)
    (a_read_again : PySem.W.nsIn K mainGlobals "read_again" = some (some (.ref f_read_again)))
    (l_read_again : K.lookup f_read_again = some ⟨oc_read_again, od_read_again, .func (PySem.W.fnOf "read_again" "read_again" (defArgs s_read_again) (defBody s_read_again) (defScope s_read_again) .none kV_read_again dc_read_again pm_read_again an_read_again cd_read_again ct_read_again), sl_read_again⟩) (c_read_again : PySem.W.codeIn K cd_read_again "read_again" = true) (k_read_again : PySem.W.keepIn K (.ref f_read_again) = true)
    (a_read_two : PySem.W.nsIn K mainGlobals "read_two" = some (some (.ref f_read_two)))
    (l_read_two : K.lookup f_read_two = some ⟨oc_read_two, od_read_two, .func (PySem.W.fnOf "read_two" "read_two" (defArgs s_read_two) (defBody s_read_two) (defScope s_read_two) .none kV_read_two dc_read_two pm_read_two an_read_two cd_read_two ct_read_two), sl_read_two⟩) (c_read_two : PySem.W.codeIn K cd_read_two "read_two" = true) (k_read_two : PySem.W.keepIn K (.ref f_read_two) = true)
    (a_hear : PySem.W.nsIn K mainGlobals "hear" = some (some (.ref f_hear)))
    (l_hear : K.lookup f_hear = some ⟨oc_hear, od_hear, .func (PySem.W.fnOf "hear" "hear" (defArgs s_hear) (defBody s_hear) (defScope s_hear) .none kV_hear dc_hear pm_hear an_hear cd_hear ct_hear), sl_hear⟩) (c_hear : PySem.W.codeIn K cd_hear "hear" = true) (k_hear : PySem.W.keepIn K (.ref f_hear) = true)
    (a_hear_simple : PySem.W.nsIn K mainGlobals "hear_simple" = some (some (.ref f_hear_simple)))
    (l_hear_simple : K.lookup f_hear_simple = some ⟨oc_hear_simple, od_hear_simple, .func (PySem.W.fnOf "hear_simple" "hear_simple" (defArgs s_hear_simple) (defBody s_hear_simple) (defScope s_hear_simple) .none kV_hear_simple dc_hear_simple pm_hear_simple an_hear_simple cd_hear_simple ct_hear_simple), sl_hear_simple⟩) (c_hear_simple : PySem.W.codeIn K cd_hear_simple "hear_simple" = true) (k_hear_simple : PySem.W.keepIn K (.ref f_hear_simple) = true)
    (a_count_down : PySem.W.nsIn K mainGlobals "count_down" = some (some (.ref f_count_down)))
    (l_count_down : K.lookup f_count_down = some ⟨oc_count_down, od_count_down, .func (PySem.W.fnOf "count_down" "count_down" (defArgs s_count_down) (defBody s_count_down) (defScope s_count_down) .none kV_count_down dc_count_down pm_count_down an_count_down cd_count_down ct_count_down), sl_count_down⟩) (c_count_down : PySem.W.codeIn K cd_count_down "count_down" = true) (k_count_down : PySem.W.keepIn K (.ref f_count_down) = true)
    (a_start_delay : PySem.W.nsIn K mainGlobals "start_delay" = some (some (.ref f_start_delay)))
    (l_start_delay : K.lookup f_start_delay = some ⟨oc_start_delay, od_start_delay, .func (PySem.W.fnOf "start_delay" "start_delay" (defArgs s_start_delay) (defBody s_start_delay) (defScope s_start_delay) .none kV_start_delay dc_start_delay pm_start_delay an_start_delay cd_start_delay ct_start_delay), sl_start_delay⟩) (c_start_delay : PySem.W.codeIn K cd_start_delay "start_delay" = true) (k_start_delay : PySem.W.keepIn K (.ref f_start_delay) = true)
    (a_hear_again : PySem.W.nsIn K mainGlobals "hear_again" = some (some (.ref f_hear_again)))
    (l_hear_again : K.lookup f_hear_again = some ⟨oc_hear_again, od_hear_again, .func (PySem.W.fnOf "hear_again" "hear_again" (defArgs s_hear_again) (defBody s_hear_again) (defScope s_hear_again) .none kV_hear_again dc_hear_again pm_hear_again an_hear_again cd_hear_again ct_hear_again), sl_hear_again⟩) (c_hear_again : PySem.W.codeIn K cd_hear_again "hear_again" = true) (k_hear_again : PySem.W.keepIn K (.ref f_hear_again) = true)
    (a_hear_turn : PySem.W.nsIn K mainGlobals "hear_turn" = some (some (.ref f_hear_turn)))
    (l_hear_turn : K.lookup f_hear_turn = some ⟨oc_hear_turn, od_hear_turn, .func (PySem.W.fnOf "hear_turn" "hear_turn" (defArgs s_hear_turn) (defBody s_hear_turn) (defScope s_hear_turn) .none kV_hear_turn dc_hear_turn pm_hear_turn an_hear_turn cd_hear_turn ct_hear_turn), sl_hear_turn⟩) (c_hear_turn : PySem.W.codeIn K cd_hear_turn "hear_turn" = true) (k_hear_turn : PySem.W.keepIn K (.ref f_hear_turn) = true)
    (a_hear_once : PySem.W.nsIn K mainGlobals "hear_once" = some (some (.ref f_hear_once)))
    (l_hear_once : K.lookup f_hear_once = some ⟨oc_hear_once, od_hear_once, .func (PySem.W.fnOf "hear_once" "hear_once" (defArgs s_hear_once) (defBody s_hear_once) (defScope s_hear_once) .none kV_hear_once dc_hear_once pm_hear_once an_hear_once cd_hear_once ct_hear_once), sl_hear_once⟩) (c_hear_once : PySem.W.codeIn K cd_hear_once "hear_once" = true) (k_hear_once : PySem.W.keepIn K (.ref f_hear_once) = true)
    (a_join_first : PySem.W.nsIn K mainGlobals "join_first" = some (some (.ref f_join_first)))
    (l_join_first : K.lookup f_join_first = some ⟨oc_join_first, od_join_first, .func (PySem.W.fnOf "join_first" "join_first" (defArgs s_join_first) (defBody s_join_first) (defScope s_join_first) .none kV_join_first dc_join_first pm_join_first an_join_first cd_join_first ct_join_first), sl_join_first⟩) (c_join_first : PySem.W.codeIn K cd_join_first "join_first" = true) (k_join_first : PySem.W.keepIn K (.ref f_join_first) = true)
    (a_join_both : PySem.W.nsIn K mainGlobals "join_both" = some (some (.ref f_join_both)))
    (l_join_both : K.lookup f_join_both = some ⟨oc_join_both, od_join_both, .func (PySem.W.fnOf "join_both" "join_both" (defArgs s_join_both) (defBody s_join_both) (defScope s_join_both) .none kV_join_both dc_join_both pm_join_both an_join_both cd_join_both ct_join_both), sl_join_both⟩) (c_join_both : PySem.W.codeIn K cd_join_both "join_both" = true) (k_join_both : PySem.W.keepIn K (.ref f_join_both) = true)
    (a_join_until : PySem.W.nsIn K mainGlobals "join_until" = some (some (.ref f_join_until)))
    (l_join_until : K.lookup f_join_until = some ⟨oc_join_until, od_join_until, .func (PySem.W.fnOf "join_until" "join_until" (defArgs s_join_until) (defBody s_join_until) (defScope s_join_until) .none kV_join_until dc_join_until pm_join_until an_join_until cd_join_until ct_join_until), sl_join_until⟩) (c_join_until : PySem.W.codeIn K cd_join_until "join_until" = true) (k_join_until : PySem.W.keepIn K (.ref f_join_until) = true)
    (a_look_ahead : PySem.W.nsIn K mainGlobals "look_ahead" = some (some (.ref f_look_ahead)))
    (l_look_ahead : K.lookup f_look_ahead = some ⟨oc_look_ahead, od_look_ahead, .func (PySem.W.fnOf "look_ahead" "look_ahead" (defArgs s_look_ahead) (defBody s_look_ahead) (defScope s_look_ahead) .none kV_look_ahead dc_look_ahead pm_look_ahead an_look_ahead cd_look_ahead ct_look_ahead), sl_look_ahead⟩) (c_look_ahead : PySem.W.codeIn K cd_look_ahead "look_ahead" = true) (k_look_ahead : PySem.W.keepIn K (.ref f_look_ahead) = true)
    (a_answers : PySem.W.nsIn K mainGlobals "answers" = some (some (.ref f_answers)))
    (l_answers : K.lookup f_answers = some ⟨oc_answers, od_answers, .func (PySem.W.fnOf "answers" "answers" (defArgs s_answers) (defBody s_answers) (defScope s_answers) .none kV_answers dc_answers pm_answers an_answers cd_answers ct_answers), sl_answers⟩) (c_answers : PySem.W.codeIn K cd_answers "answers" = true) (k_answers : PySem.W.keepIn K (.ref f_answers) = true)
    (a_size_of_call : PySem.W.nsIn K mainGlobals "size_of_call" = some (some (.ref f_size_of_call)))
    (l_size_of_call : K.lookup f_size_of_call = some ⟨oc_size_of_call, od_size_of_call, .func (PySem.W.fnOf "size_of_call" "size_of_call" (defArgs s_size_of_call) (defBody s_size_of_call) (defScope s_size_of_call) .none kV_size_of_call dc_size_of_call pm_size_of_call an_size_of_call cd_size_of_call ct_size_of_call), sl_size_of_call⟩) (c_size_of_call : PySem.W.codeIn K cd_size_of_call "size_of_call" = true) (k_size_of_call : PySem.W.keepIn K (.ref f_size_of_call) = true)
    (a_answer_call : PySem.W.nsIn K mainGlobals "answer_call" = some (some (.ref f_answer_call)))
    (l_answer_call : K.lookup f_answer_call = some ⟨oc_answer_call, od_answer_call, .func (PySem.W.fnOf "answer_call" "answer_call" (defArgs s_answer_call) (defBody s_answer_call) (defScope s_answer_call) .none kV_answer_call dc_answer_call pm_answer_call an_answer_call cd_answer_call ct_answer_call), sl_answer_call⟩) (c_answer_call : PySem.W.codeIn K cd_answer_call "answer_call" = true) (k_answer_call : PySem.W.keepIn K (.ref f_answer_call) = true)
    (a_count_changes : PySem.W.nsIn K mainGlobals "count_changes" = some (some (.ref f_count_changes)))
    (l_count_changes : K.lookup f_count_changes = some ⟨oc_count_changes, od_count_changes, .func (PySem.W.fnOf "count_changes" "count_changes" (defArgs s_count_changes) (defBody s_count_changes) (defScope s_count_changes) .none kV_count_changes dc_count_changes pm_count_changes an_count_changes cd_count_changes ct_count_changes), sl_count_changes⟩) (c_count_changes : PySem.W.codeIn K cd_count_changes "count_changes" = true) (k_count_changes : PySem.W.keepIn K (.ref f_count_changes) = true)
    (q_NEW_ONES : PySem.W.nsIn K mainGlobals "NEW_ONES" = some (some (.int 0 t_NEW_ONES)))
    (q_ALL_WITH_TAKING_BACK : PySem.W.nsIn K mainGlobals "ALL_WITH_TAKING_BACK" = some (some (.int 2 t_ALL_WITH_TAKING_BACK)))
    (q_TAKEN_BACK : PySem.W.nsIn K mainGlobals "TAKEN_BACK" = some (some (.int 0 t_TAKEN_BACK)))
    (q_TOLD : PySem.W.nsIn K mainGlobals "TOLD" = some (some (.int 1 t_TOLD)))
    (q_EVENT : PySem.W.nsIn K mainGlobals "EVENT" = some (some (.int 0 t_EVENT)))
    (q_TICK : PySem.W.nsIn K mainGlobals "TICK" = some (some (.int 1 t_TICK)))
    (q_MARK : PySem.W.nsIn K mainGlobals "MARK" = some (some (.int 2 t_MARK)))
    (q_NTH : PySem.W.nsIn K mainGlobals "NTH" = some (some (.int 0 t_NTH)))
    (q_DELAY : PySem.W.nsIn K mainGlobals "DELAY" = some (some (.int 1 t_DELAY)))
    (q_AT_MARK : PySem.W.nsIn K mainGlobals "AT_MARK" = some (some (.int 2 t_AT_MARK)))
    (q_NEVER : PySem.W.nsIn K mainGlobals "NEVER" = some (some (.int 3 t_NEVER)))
    (q_AGAIN : PySem.W.nsIn K mainGlobals "AGAIN" = some (some (.int 4 t_AGAIN)))
    (q_FIRST : PySem.W.nsIn K mainGlobals "FIRST" = some (some (.int 5 t_FIRST)))
    (q_BOTH : PySem.W.nsIn K mainGlobals "BOTH" = some (some (.int 6 t_BOTH)))
    (q_TURN : PySem.W.nsIn K mainGlobals "TURN" = some (some (.int 7 t_TURN)))
    (q_UNTIL : PySem.W.nsIn K mainGlobals "UNTIL" = some (some (.int 8 t_UNTIL)))
    (q_DELAYING : PySem.W.nsIn K mainGlobals "DELAYING" = some (some (.int 9 t_DELAYING)))
    (q_ONCE : PySem.W.nsIn K mainGlobals "ONCE" = some (some (.int 10 t_ONCE)))
    (q_FIRES : PySem.W.nsIn K mainGlobals "FIRES" = some (some (.int 0 t_FIRES)))
    (q_LEFT : PySem.W.nsIn K mainGlobals "LEFT" = some (some (.int 1 t_LEFT)))
    (q_MOST_NUMBERS : PySem.W.nsIn K mainGlobals "MOST_NUMBERS" = some (some (.int 60 t_MOST_NUMBERS)))
    (q_DEEPEST : PySem.W.nsIn K mainGlobals "DEEPEST" = some (some (.int 10 t_DEEPEST)))
    (q_MOST_COUNTED : PySem.W.nsIn K mainGlobals "MOST_COUNTED" = some (some (.int 1000 t_MOST_COUNTED)))
    (q_MOST_LOOKED_AHEAD : PySem.W.nsIn K mainGlobals "MOST_LOOKED_AHEAD" = some (some (.int 2000 t_MOST_LOOKED_AHEAD)))
    (q_BEGIN_CALL : PySem.W.nsIn K mainGlobals "BEGIN_CALL" = some (some (.int 0 t_BEGIN_CALL)))
    (q_EVENT_CALL : PySem.W.nsIn K mainGlobals "EVENT_CALL" = some (some (.int 1 t_EVENT_CALL)))
    (q_TICKS_CALL : PySem.W.nsIn K mainGlobals "TICKS_CALL" = some (some (.int 2 t_TICKS_CALL)))
    (q_MARK_CALL : PySem.W.nsIn K mainGlobals "MARK_CALL" = some (some (.int 3 t_MARK_CALL)))
    (q_KEY_CALL : PySem.W.nsIn K mainGlobals "KEY_CALL" = some (some (.int 4 t_KEY_CALL)))
    (q_KEYS_CALL : PySem.W.nsIn K mainGlobals "KEYS_CALL" = some (some (.int 5 t_KEYS_CALL)))
    (q_SOON_CALL : PySem.W.nsIn K mainGlobals "SOON_CALL" = some (some (.int 6 t_SOON_CALL)))
    (q_EARLY : PySem.W.nsIn K mainGlobals "EARLY" = some (some (.int 0 t_EARLY)))
    (q_BY_THE_MARK : PySem.W.nsIn K mainGlobals "BY_THE_MARK" = some (some (.int 1 t_BY_THE_MARK)))
    (q_LATE : PySem.W.nsIn K mainGlobals "LATE" = some (some (.int 2 t_LATE)))
    (q_LAST_KEY : PySem.W.nsIn K mainGlobals "LAST_KEY" = some (some (.int 9 t_LAST_KEY)))
    (q_MOST_VALUE : PySem.W.nsIn K mainGlobals "MOST_VALUE" = some (some (.int 1000000 t_MOST_VALUE)))
    (q_MOST_TICKS : PySem.W.nsIn K mainGlobals "MOST_TICKS" = some (some (.int 200 t_MOST_TICKS)))
    (q_NUMBERS_OF_A_CHANGE : PySem.W.nsIn K mainGlobals "NUMBERS_OF_A_CHANGE" = some (some (.int 6 t_NUMBERS_OF_A_CHANGE)))
    (q_SIZES : PySem.W.nsIn K mainGlobals "SIZES" = some (some (.ref f_SIZES)))
    (l_SIZES : K.lookup f_SIZES = some ⟨.type "tuple", od_SIZES, .seq #[.int 4 u_SIZES_0, .int 3 u_SIZES_1, .int 2 u_SIZES_2, .int 1 u_SIZES_3, .int 2 u_SIZES_4, .int 1 u_SIZES_5, .int 3 u_SIZES_6, .int 1 u_SIZES_7] n_SIZES, sl_SIZES⟩)
    (z_len : PySem.W.nsIn K mainGlobals "len" = some none)
    (z_range : PySem.W.nsIn K mainGlobals "range" = some none)
    (z_sorted : PySem.W.nsIn K mainGlobals "sorted" = some none) :
    ∃ fd : FuncData, (∀ (s : Shared) (us : List Value), us.length = (["calls"] : List Str).length → BindsTo s fd ⟨us, []⟩ ((["calls"] : List Str).zip us)) ∧ ∀ base : Heap, K.In base → base.Ns mainGlobals mg → FnOk P w K mg base CX0 41 fa fd ["calls"] (spAns K) := by
  have e := hfa.symm.trans (PySem.W.mg_of X G a_answers)
  cases e
  have F_Pile_init := fun_mk (st := s_Pile_init) l_Pile_init c_Pile_init k_Pile_init
  have b_Pile_init := F_Pile_init.binds (ps := ["self", "key", "trigger"]) fun _ _ _ _ _ _ us hl => match us, hl with | [_, _, _], _ => rfl
  have F_Pile_take := fun_mk (st := s_Pile_take) l_Pile_take c_Pile_take k_Pile_take
  have b_Pile_take := F_Pile_take.binds (ps := ["self", "value"]) fun _ _ _ _ _ _ us hl => match us, hl with | [_, _], _ => rfl
  have M_Pile_take : MDef K c_Pile "take" "Pile.take" s_Pile_take ["self", "value"] := ⟨_, _, F_Pile_take, b_Pile_take, a_Pile_take, i_Pile_take, k_Pile_take⟩
  have F_Pile_tell := fun_mk (st := s_Pile_tell) l_Pile_tell c_Pile_tell k_Pile_tell
  have b_Pile_tell := F_Pile_tell.binds (ps := ["self", "mode", "empties", "when"]) fun _ _ _ _ _ _ us hl => match us, hl with | [_, _, _, _], _ => rfl
  have M_Pile_tell : MDef K c_Pile "tell" "Pile.tell" s_Pile_tell ["self", "mode", "empties", "when"] := ⟨_, _, F_Pile_tell, b_Pile_tell, a_Pile_tell, i_Pile_tell, k_Pile_tell⟩
  have F_Pile_make_pane := fun_mk (st := s_Pile_make_pane) l_Pile_make_pane c_Pile_make_pane k_Pile_make_pane
  have b_Pile_make_pane := F_Pile_make_pane.binds (ps := ["self", "mode", "when"]) fun _ _ _ _ _ _ us hl => match us, hl with | [_, _, _], _ => rfl
  have M_Pile_make_pane : MDef K c_Pile "make_pane" "Pile.make_pane" s_Pile_make_pane ["self", "mode", "when"] := ⟨_, _, F_Pile_make_pane, b_Pile_make_pane, a_Pile_make_pane, i_Pile_make_pane, k_Pile_make_pane⟩
  have F_Pile_show := fun_mk (st := s_Pile_show) l_Pile_show c_Pile_show k_Pile_show
  have b_Pile_show := F_Pile_show.binds (ps := ["self"]) fun _ _ _ _ _ _ us hl => match us, hl with | [_], _ => rfl
  have M_Pile_show : MDef K c_Pile "show" "Pile.show" s_Pile_show ["self"] := ⟨_, _, F_Pile_show, b_Pile_show, a_Pile_show, i_Pile_show, k_Pile_show⟩
  have cl_Pile : Cls K c_Pile := ⟨pg_Pile, hd_Pile, po_Pile, sa_Pile⟩
  have Mk_Pile : Mk K c_Pile f_Pile_init := ⟨mk_Pile, a_Pile_init, i_Pile_init, kc_Pile⟩
  have mc_Pile : mg "Pile" = some (.ref c_Pile) := PySem.W.mg_of X G a_Pile
  have F_Stretch_init := fun_mk (st := s_Stretch_init) l_Stretch_init c_Stretch_init k_Stretch_init
  have b_Stretch_init := F_Stretch_init.binds (ps := ["self"]) fun _ _ _ _ _ _ us hl => match us, hl with | [_], _ => rfl
  have F_Stretch_start_anew := fun_mk (st := s_Stretch_start_anew) l_Stretch_start_anew c_Stretch_start_anew k_Stretch_start_anew
  have b_Stretch_start_anew := F_Stretch_start_anew.binds (ps := ["self", "mode", "empties", "trigger"]) fun _ _ _ _ _ _ us hl => match us, hl with | [_, _, _, _], _ => rfl
  have M_Stretch_start_anew : MDef K c_Stretch "start_anew" "Stretch.start_anew" s_Stretch_start_anew ["self", "mode", "empties", "trigger"] := ⟨_, _, F_Stretch_start_anew, b_Stretch_start_anew, a_Stretch_start_anew, i_Stretch_start_anew, k_Stretch_start_anew⟩
  have F_Stretch_begin := fun_mk (st := s_Stretch_begin) l_Stretch_begin c_Stretch_begin k_Stretch_begin
  have b_Stretch_begin := F_Stretch_begin.binds (ps := ["self", "mode", "empties", "numbers"]) fun _ _ _ _ _ _ us hl => match us, hl with | [_, _, _, _], _ => rfl
  have M_Stretch_begin : MDef K c_Stretch "begin" "Stretch.begin" s_Stretch_begin ["self", "mode", "empties", "numbers"] := ⟨_, _, F_Stretch_begin, b_Stretch_begin, a_Stretch_begin, i_Stretch_begin, k_Stretch_begin⟩
  have F_Stretch_take_event := fun_mk (st := s_Stretch_take_event) l_Stretch_take_event c_Stretch_take_event k_Stretch_take_event
  have b_Stretch_take_event := F_Stretch_take_event.binds (ps := ["self", "key", "value"]) fun _ _ _ _ _ _ us hl => match us, hl with | [_, _, _], _ => rfl
  have M_Stretch_take_event : MDef K c_Stretch "take_event" "Stretch.take_event" s_Stretch_take_event ["self", "key", "value"] := ⟨_, _, F_Stretch_take_event, b_Stretch_take_event, a_Stretch_take_event, i_Stretch_take_event, k_Stretch_take_event⟩
  have F_Stretch_pass_ticks := fun_mk (st := s_Stretch_pass_ticks) l_Stretch_pass_ticks c_Stretch_pass_ticks k_Stretch_pass_ticks
  have b_Stretch_pass_ticks := F_Stretch_pass_ticks.binds (ps := ["self", "ticks"]) fun _ _ _ _ _ _ us hl => match us, hl with | [_, _], _ => rfl
  have M_Stretch_pass_ticks : MDef K c_Stretch "pass_ticks" "Stretch.pass_ticks" s_Stretch_pass_ticks ["self", "ticks"] := ⟨_, _, F_Stretch_pass_ticks, b_Stretch_pass_ticks, a_Stretch_pass_ticks, i_Stretch_pass_ticks, k_Stretch_pass_ticks⟩
  have F_Stretch_pass_mark := fun_mk (st := s_Stretch_pass_mark) l_Stretch_pass_mark c_Stretch_pass_mark k_Stretch_pass_mark
  have b_Stretch_pass_mark := F_Stretch_pass_mark.binds (ps := ["self"]) fun _ _ _ _ _ _ us hl => match us, hl with | [_], _ => rfl
  have M_Stretch_pass_mark : MDef K c_Stretch "pass_mark" "Stretch.pass_mark" s_Stretch_pass_mark ["self"] := ⟨_, _, F_Stretch_pass_mark, b_Stretch_pass_mark, a_Stretch_pass_mark, i_Stretch_pass_mark, k_Stretch_pass_mark⟩
  have F_Stretch_show_key := fun_mk (st := s_Stretch_show_key) l_Stretch_show_key c_Stretch_show_key k_Stretch_show_key
  have b_Stretch_show_key := F_Stretch_show_key.binds (ps := ["self", "key"]) fun _ _ _ _ _ _ us hl => match us, hl with | [_, _], _ => rfl
  have M_Stretch_show_key : MDef K c_Stretch "show_key" "Stretch.show_key" s_Stretch_show_key ["self", "key"] := ⟨_, _, F_Stretch_show_key, b_Stretch_show_key, a_Stretch_show_key, i_Stretch_show_key, k_Stretch_show_key⟩
  have F_Stretch_show_keys := fun_mk (st := s_Stretch_show_keys) l_Stretch_show_keys c_Stretch_show_keys k_Stretch_show_keys
  have b_Stretch_show_keys := F_Stretch_show_keys.binds (ps := ["self"]) fun _ _ _ _ _ _ us hl => match us, hl with | [_], _ => rfl
  have M_Stretch_show_keys : MDef K c_Stretch "show_keys" "Stretch.show_keys" s_Stretch_show_keys ["self"] := ⟨_, _, F_Stretch_show_keys, b_Stretch_show_keys, a_Stretch_show_keys, i_Stretch_show_keys, k_Stretch_show_keys⟩
  have F_Stretch_show_soon := fun_mk (st := s_Stretch_show_soon) l_Stretch_show_soon c_Stretch_show_soon k_Stretch_show_soon
  have b_Stretch_show_soon := F_Stretch_show_soon.binds (ps := ["self", "key", "sort"]) fun _ _ _ _ _ _ us hl => match us, hl with | [_, _, _], _ => rfl
  have M_Stretch_show_soon : MDef K c_Stretch "show_soon" "Stretch.show_soon" s_Stretch_show_soon ["self", "key", "sort"] := ⟨_, _, F_Stretch_show_soon, b_Stretch_show_soon, a_Stretch_show_soon, i_Stretch_show_soon, k_Stretch_show_soon⟩
  have F_Stretch_show_counts := fun_mk (st := s_Stretch_show_counts) l_Stretch_show_counts c_Stretch_show_counts k_Stretch_show_counts
  have b_Stretch_show_counts := F_Stretch_show_counts.binds (ps := ["self"]) fun _ _ _ _ _ _ us hl => match us, hl with | [_], _ => rfl
  have M_Stretch_show_counts : MDef K c_Stretch "show_counts" "Stretch.show_counts" s_Stretch_show_counts ["self"] := ⟨_, _, F_Stretch_show_counts, b_Stretch_show_counts, a_Stretch_show_counts, i_Stretch_show_counts, k_Stretch_show_counts⟩
  have F_Stretch_let_all_hear := fun_mk (st := s_Stretch_let_all_hear) l_Stretch_let_all_hear c_Stretch_let_all_hear k_Stretch_let_all_hear
  have b_Stretch_let_all_hear := F_Stretch_let_all_hear.binds (ps := ["self", "heard"]) fun _ _ _ _ _ _ us hl => match us, hl with | [_, _], _ => rfl
  have M_Stretch_let_all_hear : MDef K c_Stretch "let_all_hear" "Stretch.let_all_hear" s_Stretch_let_all_hear ["self", "heard"] := ⟨_, _, F_Stretch_let_all_hear, b_Stretch_let_all_hear, a_Stretch_let_all_hear, i_Stretch_let_all_hear, k_Stretch_let_all_hear⟩
  have F_Stretch_let_hear := fun_mk (st := s_Stretch_let_hear) l_Stretch_let_hear c_Stretch_let_hear k_Stretch_let_hear
  have b_Stretch_let_hear := F_Stretch_let_hear.binds (ps := ["self", "pile", "heard"]) fun _ _ _ _ _ _ us hl => match us, hl with | [_, _, _], _ => rfl
  have M_Stretch_let_hear : MDef K c_Stretch "let_hear" "Stretch.let_hear" s_Stretch_let_hear ["self", "pile", "heard"] := ⟨_, _, F_Stretch_let_hear, b_Stretch_let_hear, a_Stretch_let_hear, i_Stretch_let_hear, k_Stretch_let_hear⟩
  have F_Stretch_when_heard := fun_mk (st := s_Stretch_when_heard) l_Stretch_when_heard c_Stretch_when_heard k_Stretch_when_heard
  have b_Stretch_when_heard := F_Stretch_when_heard.binds (ps := ["self", "heard"]) fun _ _ _ _ _ _ us hl => match us, hl with | [_, _], _ => rfl
  have M_Stretch_when_heard : MDef K c_Stretch "when_heard" "Stretch.when_heard" s_Stretch_when_heard ["self", "heard"] := ⟨_, _, F_Stretch_when_heard, b_Stretch_when_heard, a_Stretch_when_heard, i_Stretch_when_heard, k_Stretch_when_heard⟩
  have cl_Stretch : Cls K c_Stretch := ⟨pg_Stretch, hd_Stretch, po_Stretch, sa_Stretch⟩
  have Mk_Stretch : Mk K c_Stretch f_Stretch_init := ⟨mk_Stretch, a_Stretch_init, i_Stretch_init, kc_Stretch⟩
  have mc_Stretch : mg "Stretch" = some (.ref c_Stretch) := PySem.W.mg_of X G a_Stretch
  have F_read_trigger := fun_mk (st := s_read_trigger) l_read_trigger c_read_trigger k_read_trigger
  have b_read_trigger := F_read_trigger.binds (ps := ["numbers"]) fun _ _ _ _ _ _ us hl => match us, hl with | [_], _ => rfl
  have D_read_trigger : DefAt K mg "read_trigger" s_read_trigger ["numbers"] := ⟨_, _, F_read_trigger, b_read_trigger, PySem.W.mg_of X G a_read_trigger⟩
  have F_read_at := fun_mk (st := s_read_at) l_read_at c_read_at k_read_at
  have b_read_at := F_read_at.binds (ps := ["numbers", "at", "depth"]) fun _ _ _ _ _ _ us hl => match us, hl with | [_, _, _], _ => rfl
  have D_read_at : DefAt K mg "read_at" s_read_at ["numbers", "at", "depth"] := ⟨_, _, F_read_at, b_read_at, PySem.W.mg_of X G a_read_at⟩
  have F_read_counted := fun_mk (st := s_read_counted) l_read_counted c_read_counted k_read_counted
  have b_read_counted := F_read_counted.binds (ps := ["numbers", "at"]) fun _ _ _ _ _ _ us hl => match us, hl with | [_, _], _ => rfl
  have D_read_counted : DefAt K mg "read_counted" s_read_counted ["numbers", "at"] := ⟨_, _, F_read_counted, b_read_counted, PySem.W.mg_of X G a_read_counted⟩
  have F_read_again := fun_mk (st := s_read_again) l_read_again c_read_again k_read_again
  have b_read_again := F_read_again.binds (ps := ["numbers", "at", "depth"]) fun _ _ _ _ _ _ us hl => match us, hl with | [_, _, _], _ => rfl
  have D_read_again : DefAt K mg "read_again" s_read_again ["numbers", "at", "depth"] := ⟨_, _, F_read_again, b_read_again, PySem.W.mg_of X G a_read_again⟩
  have F_read_two := fun_mk (st := s_read_two) l_read_two c_read_two k_read_two
  have b_read_two := F_read_two.binds (ps := ["numbers", "at", "depth"]) fun _ _ _ _ _ _ us hl => match us, hl with | [_, _, _], _ => rfl
  have D_read_two : DefAt K mg "read_two" s_read_two ["numbers", "at", "depth"] := ⟨_, _, F_read_two, b_read_two, PySem.W.mg_of X G a_read_two⟩
  have F_hear := fun_mk (st := s_hear) l_hear c_hear k_hear
  have b_hear := F_hear.binds (ps := ["trigger", "heard"]) fun _ _ _ _ _ _ us hl => match us, hl with | [_, _], _ => rfl
  have D_hear : DefAt K mg "hear" s_hear ["trigger", "heard"] := ⟨_, _, F_hear, b_hear, PySem.W.mg_of X G a_hear⟩
  have F_hear_simple := fun_mk (st := s_hear_simple) l_hear_simple c_hear_simple k_hear_simple
  have b_hear_simple := F_hear_simple.binds (ps := ["trigger", "heard"]) fun _ _ _ _ _ _ us hl => match us, hl with | [_, _], _ => rfl
  have D_hear_simple : DefAt K mg "hear_simple" s_hear_simple ["trigger", "heard"] := ⟨_, _, F_hear_simple, b_hear_simple, PySem.W.mg_of X G a_hear_simple⟩
  have F_count_down := fun_mk (st := s_count_down) l_count_down c_count_down k_count_down
  have b_count_down := F_count_down.binds (ps := ["sort", "missing"]) fun _ _ _ _ _ _ us hl => match us, hl with | [_, _], _ => rfl
  have D_count_down : DefAt K mg "count_down" s_count_down ["sort", "missing"] := ⟨_, _, F_count_down, b_count_down, PySem.W.mg_of X G a_count_down⟩
  have F_start_delay := fun_mk (st := s_start_delay) l_start_delay c_start_delay k_start_delay
  have b_start_delay := F_start_delay.binds (ps := ["ticks"]) fun _ _ _ _ _ _ us hl => match us, hl with | [_], _ => rfl
  have D_start_delay : DefAt K mg "start_delay" s_start_delay ["ticks"] := ⟨_, _, F_start_delay, b_start_delay, PySem.W.mg_of X G a_start_delay⟩
  have F_hear_again := fun_mk (st := s_hear_again) l_hear_again c_hear_again k_hear_again
  have b_hear_again := F_hear_again.binds (ps := ["trigger", "heard"]) fun _ _ _ _ _ _ us hl => match us, hl with | [_, _], _ => rfl
  have D_hear_again : DefAt K mg "hear_again" s_hear_again ["trigger", "heard"] := ⟨_, _, F_hear_again, b_hear_again, PySem.W.mg_of X G a_hear_again⟩
  have F_hear_turn := fun_mk (st := s_hear_turn) l_hear_turn c_hear_turn k_hear_turn
  have b_hear_turn := F_hear_turn.binds (ps := ["trigger", "heard"]) fun _ _ _ _ _ _ us hl => match us, hl with | [_, _], _ => rfl
  have D_hear_turn : DefAt K mg "hear_turn" s_hear_turn ["trigger", "heard"] := ⟨_, _, F_hear_turn, b_hear_turn, PySem.W.mg_of X G a_hear_turn⟩
  have F_hear_once := fun_mk (st := s_hear_once) l_hear_once c_hear_once k_hear_once
  have b_hear_once := F_hear_once.binds (ps := ["trigger", "heard"]) fun _ _ _ _ _ _ us hl => match us, hl with | [_, _], _ => rfl
  have D_hear_once : DefAt K mg "hear_once" s_hear_once ["trigger", "heard"] := ⟨_, _, F_hear_once, b_hear_once, PySem.W.mg_of X G a_hear_once⟩
  have F_join_first := fun_mk (st := s_join_first) l_join_first c_join_first k_join_first
  have b_join_first := F_join_first.binds (ps := ["one", "two"]) fun _ _ _ _ _ _ us hl => match us, hl with | [_, _], _ => rfl
  have D_join_first : DefAt K mg "join_first" s_join_first ["one", "two"] := ⟨_, _, F_join_first, b_join_first, PySem.W.mg_of X G a_join_first⟩
  have F_join_both := fun_mk (st := s_join_both) l_join_both c_join_both k_join_both
  have b_join_both := F_join_both.binds (ps := ["one", "two"]) fun _ _ _ _ _ _ us hl => match us, hl with | [_, _], _ => rfl
  have D_join_both : DefAt K mg "join_both" s_join_both ["one", "two"] := ⟨_, _, F_join_both, b_join_both, PySem.W.mg_of X G a_join_both⟩
  have F_join_until := fun_mk (st := s_join_until) l_join_until c_join_until k_join_until
  have b_join_until := F_join_until.binds (ps := ["one", "two"]) fun _ _ _ _ _ _ us hl => match us, hl with | [_, _], _ => rfl
  have D_join_until : DefAt K mg "join_until" s_join_until ["one", "two"] := ⟨_, _, F_join_until, b_join_until, PySem.W.mg_of X G a_join_until⟩
  have F_look_ahead := fun_mk (st := s_look_ahead) l_look_ahead c_look_ahead k_look_ahead
  have b_look_ahead := F_look_ahead.binds (ps := ["trigger", "heard"]) fun _ _ _ _ _ _ us hl => match us, hl with | [_, _], _ => rfl
  have D_look_ahead : DefAt K mg "look_ahead" s_look_ahead ["trigger", "heard"] := ⟨_, _, F_look_ahead, b_look_ahead, PySem.W.mg_of X G a_look_ahead⟩
  have F_answers := fun_mk (st := s_answers) l_answers c_answers k_answers
  have b_answers := F_answers.binds (ps := ["calls"]) fun _ _ _ _ _ _ us hl => match us, hl with | [_], _ => rfl
  have D_answers : DefAt K mg "answers" s_answers ["calls"] := ⟨_, _, F_answers, b_answers, PySem.W.mg_of X G a_answers⟩
  have F_size_of_call := fun_mk (st := s_size_of_call) l_size_of_call c_size_of_call k_size_of_call
  have b_size_of_call := F_size_of_call.binds (ps := ["calls", "at"]) fun _ _ _ _ _ _ us hl => match us, hl with | [_, _], _ => rfl
  have D_size_of_call : DefAt K mg "size_of_call" s_size_of_call ["calls", "at"] := ⟨_, _, F_size_of_call, b_size_of_call, PySem.W.mg_of X G a_size_of_call⟩
  have F_answer_call := fun_mk (st := s_answer_call) l_answer_call c_answer_call k_answer_call
  have b_answer_call := F_answer_call.binds (ps := ["stretch", "call"]) fun _ _ _ _ _ _ us hl => match us, hl with | [_, _], _ => rfl
  have D_answer_call : DefAt K mg "answer_call" s_answer_call ["stretch", "call"] := ⟨_, _, F_answer_call, b_answer_call, PySem.W.mg_of X G a_answer_call⟩
  have F_count_changes := fun_mk (st := s_count_changes) l_count_changes c_count_changes k_count_changes
  have b_count_changes := F_count_changes.binds (ps := ["changes"]) fun _ _ _ _ _ _ us hl => match us, hl with | [_], _ => rfl
  have D_count_changes : DefAt K mg "count_changes" s_count_changes ["changes"] := ⟨_, _, F_count_changes, b_count_changes, PySem.W.mg_of X G a_count_changes⟩
  have k_NEW_ONES : CI mg "NEW_ONES" 0 := ⟨t_NEW_ONES, PySem.W.mg_of X G q_NEW_ONES⟩
  have k_ALL_WITH_TAKING_BACK : CI mg "ALL_WITH_TAKING_BACK" 2 := ⟨t_ALL_WITH_TAKING_BACK, PySem.W.mg_of X G q_ALL_WITH_TAKING_BACK⟩
  have k_TAKEN_BACK : CI mg "TAKEN_BACK" 0 := ⟨t_TAKEN_BACK, PySem.W.mg_of X G q_TAKEN_BACK⟩
  have k_TOLD : CI mg "TOLD" 1 := ⟨t_TOLD, PySem.W.mg_of X G q_TOLD⟩
  have k_EVENT : CI mg "EVENT" 0 := ⟨t_EVENT, PySem.W.mg_of X G q_EVENT⟩
  have k_TICK : CI mg "TICK" 1 := ⟨t_TICK, PySem.W.mg_of X G q_TICK⟩
  have k_MARK : CI mg "MARK" 2 := ⟨t_MARK, PySem.W.mg_of X G q_MARK⟩
  have k_NTH : CI mg "NTH" 0 := ⟨t_NTH, PySem.W.mg_of X G q_NTH⟩
  have k_DELAY : CI mg "DELAY" 1 := ⟨t_DELAY, PySem.W.mg_of X G q_DELAY⟩
  have k_AT_MARK : CI mg "AT_MARK" 2 := ⟨t_AT_MARK, PySem.W.mg_of X G q_AT_MARK⟩
  have k_NEVER : CI mg "NEVER" 3 := ⟨t_NEVER, PySem.W.mg_of X G q_NEVER⟩
  have k_AGAIN : CI mg "AGAIN" 4 := ⟨t_AGAIN, PySem.W.mg_of X G q_AGAIN⟩
  have k_FIRST : CI mg "FIRST" 5 := ⟨t_FIRST, PySem.W.mg_of X G q_FIRST⟩
  have k_BOTH : CI mg "BOTH" 6 := ⟨t_BOTH, PySem.W.mg_of X G q_BOTH⟩
  have k_TURN : CI mg "TURN" 7 := ⟨t_TURN, PySem.W.mg_of X G q_TURN⟩
  have k_UNTIL : CI mg "UNTIL" 8 := ⟨t_UNTIL, PySem.W.mg_of X G q_UNTIL⟩
  have k_DELAYING : CI mg "DELAYING" 9 := ⟨t_DELAYING, PySem.W.mg_of X G q_DELAYING⟩
  have k_ONCE : CI mg "ONCE" 10 := ⟨t_ONCE, PySem.W.mg_of X G q_ONCE⟩
  have k_FIRES : CI mg "FIRES" 0 := ⟨t_FIRES, PySem.W.mg_of X G q_FIRES⟩
  have k_LEFT : CI mg "LEFT" 1 := ⟨t_LEFT, PySem.W.mg_of X G q_LEFT⟩
  have k_MOST_NUMBERS : CI mg "MOST_NUMBERS" 60 := ⟨t_MOST_NUMBERS, PySem.W.mg_of X G q_MOST_NUMBERS⟩
  have k_DEEPEST : CI mg "DEEPEST" 10 := ⟨t_DEEPEST, PySem.W.mg_of X G q_DEEPEST⟩
  have k_MOST_COUNTED : CI mg "MOST_COUNTED" 1000 := ⟨t_MOST_COUNTED, PySem.W.mg_of X G q_MOST_COUNTED⟩
  have k_MOST_LOOKED_AHEAD : CI mg "MOST_LOOKED_AHEAD" 2000 := ⟨t_MOST_LOOKED_AHEAD, PySem.W.mg_of X G q_MOST_LOOKED_AHEAD⟩
  have k_BEGIN_CALL : CI mg "BEGIN_CALL" 0 := ⟨t_BEGIN_CALL, PySem.W.mg_of X G q_BEGIN_CALL⟩
  have k_EVENT_CALL : CI mg "EVENT_CALL" 1 := ⟨t_EVENT_CALL, PySem.W.mg_of X G q_EVENT_CALL⟩
  have k_TICKS_CALL : CI mg "TICKS_CALL" 2 := ⟨t_TICKS_CALL, PySem.W.mg_of X G q_TICKS_CALL⟩
  have k_MARK_CALL : CI mg "MARK_CALL" 3 := ⟨t_MARK_CALL, PySem.W.mg_of X G q_MARK_CALL⟩
  have k_KEY_CALL : CI mg "KEY_CALL" 4 := ⟨t_KEY_CALL, PySem.W.mg_of X G q_KEY_CALL⟩
  have k_KEYS_CALL : CI mg "KEYS_CALL" 5 := ⟨t_KEYS_CALL, PySem.W.mg_of X G q_KEYS_CALL⟩
  have k_SOON_CALL : CI mg "SOON_CALL" 6 := ⟨t_SOON_CALL, PySem.W.mg_of X G q_SOON_CALL⟩
  have k_EARLY : CI mg "EARLY" 0 := ⟨t_EARLY, PySem.W.mg_of X G q_EARLY⟩
  have k_BY_THE_MARK : CI mg "BY_THE_MARK" 1 := ⟨t_BY_THE_MARK, PySem.W.mg_of X G q_BY_THE_MARK⟩
  have k_LATE : CI mg "LATE" 2 := ⟨t_LATE, PySem.W.mg_of X G q_LATE⟩
  have k_LAST_KEY : CI mg "LAST_KEY" 9 := ⟨t_LAST_KEY, PySem.W.mg_of X G q_LAST_KEY⟩
  have k_MOST_VALUE : CI mg "MOST_VALUE" 1000000 := ⟨t_MOST_VALUE, PySem.W.mg_of X G q_MOST_VALUE⟩
  have k_MOST_TICKS : CI mg "MOST_TICKS" 200 := ⟨t_MOST_TICKS, PySem.W.mg_of X G q_MOST_TICKS⟩
  have k_NUMBERS_OF_A_CHANGE : CI mg "NUMBERS_OF_A_CHANGE" 6 := ⟨t_NUMBERS_OF_A_CHANGE, PySem.W.mg_of X G q_NUMBERS_OF_A_CHANGE⟩
  have t_SIZES : ∃ sa, mg "SIZES" = some (.ref sa) ∧ ∀ H : Hp, SqT K H sa (nv [4, 3, 2, 1, 2, 1, 3, 1]) := ⟨_, PySem.W.mg_of X G q_SIZES, fun H => .inr ⟨_, _, _, l_SIZES, rfl, rfl, sz (by simp), .cons ⟨_, rfl⟩ (.cons ⟨_, rfl⟩ (.cons ⟨_, rfl⟩ (.cons ⟨_, rfl⟩ (.cons ⟨_, rfl⟩ (.cons ⟨_, rfl⟩ (.cons ⟨_, rfl⟩ (.cons ⟨_, rfl⟩ (.nil))))))))⟩⟩
  have y_len : mg "len" = none := PySem.W.mg_none_of X G z_len
  have y_range : mg "range" = none := PySem.W.mg_none_of X G z_range
  have y_sorted : mg "sorted" = none := PySem.W.mg_none_of X G z_sorted
  have T : Cs mg := ⟨k_EVENT, k_TICK, k_MARK, k_NTH, k_DELAY, k_AT_MARK, k_NEVER, k_AGAIN, k_FIRST, k_BOTH, k_TURN, k_UNTIL, k_DELAYING, k_ONCE, k_FIRES, k_LEFT, k_MOST_NUMBERS, k_DEEPEST, k_MOST_COUNTED, y_len⟩
  have PT : PTx K mg c_Pile := ⟨cl_Pile, na_Pile_key, na_Pile_trigger, na_Pile_new_count, na_Pile_new_sum, na_Pile_all_count, na_Pile_all_sum, na_Pile_panes, na_Pile_last_pane, k_NEW_ONES, k_ALL_WITH_TAKING_BACK, k_TAKEN_BACK, k_TOLD⟩
  have S : STx K mg c_Stretch := ⟨cl_Stretch, na_Stretch_mode, na_Stretch_empties, na_Stretch_trigger, na_Stretch_mark_passed, na_Stretch_piles, na_Stretch_taken, na_Stretch_not_taken, k_EARLY, k_BY_THE_MARK, k_LATE, k_LAST_KEY, k_MOST_VALUE, k_MOST_TICKS, k_NUMBERS_OF_A_CHANGE, y_sorted, y_range⟩
  have HD : HearDefs K mg := ⟨D_hear, D_hear_simple, D_hear_again, D_hear_turn, D_hear_once, D_count_down, D_start_delay, D_join_first, D_join_both, D_join_until⟩
  have RD : ReadDefs K mg := ⟨D_read_trigger, D_read_at, D_read_counted, D_read_again, D_read_two⟩
  refine ⟨PySem.W.fnOf "answers" "answers" (defArgs s_answers) (defBody s_answers) (defScope s_answers) .none kV_answers dc_answers pm_answers an_answers cd_answers ct_answers, fun s us hu => match us, hu with | [_], _ => .of_eq rfl, fun base _ _ => ?_⟩
  have HE := ok_hear (P := P) (w := w) (base := base) HD T 10
  have RT := ok_read_trigger (P := P) (w := w) (base := base) RD T
  have AN := ok_start_anew (P := P) (w := w) (mg := mg) (base := base) M_Stretch_start_anew S
  have SI := ok_sinit (C := c_Pile) (P := P) (w := w) (base := base) F_Stretch_init T S PT RT AN
  have TK := ok_take (P := P) (w := w) (mg := mg) (base := base) M_Pile_take PT
  have MP := ok_make_pane (P := P) (w := w) (mg := mg) (base := base) M_Pile_make_pane PT
  have TE := ok_tell M_Pile_tell PT MP
  have PI := ok_pinit (P := P) (w := w) (mg := mg) (base := base) F_Pile_init PT
  have WH := ok_when_heard (P := P) (w := w) (base := base) M_Stretch_when_heard T S
  have LH := ok_let_hear M_Stretch_let_hear T S PT HE TE WH
  have AH := ok_let_all_hear M_Stretch_let_all_hear S LH
  have CC := ok_count_changes (P := P) (w := w) (base := base) D_count_changes T S
  have PTk := ok_pass_ticks M_Stretch_pass_ticks T S AH CC
  have PMk := ok_pass_mark M_Stretch_pass_mark T S AH CC
  have BE := ok_begin (C := c_Pile) M_Stretch_begin T S PT RT AN
  have EV := ok_take_event M_Stretch_take_event T S PT Mk_Pile PI b_Pile_init mc_Pile TK LH CC
  have SW := ok_show (P := P) (w := w) (mg := mg) (base := base) M_Pile_show PT
  have SK := ok_show_key M_Stretch_show_key S PT SW
  have SS := ok_show_keys (C := c_Pile) (P := P) (w := w) (base := base) M_Stretch_show_keys T S
  have LA := ok_look_ahead (P := P) (w := w) (base := base) D_look_ahead T S k_MOST_LOOKED_AHEAD HE
  have SO := ok_show_soon M_Stretch_show_soon T S PT LA
  have CO := ok_show_counts (C := c_Pile) (P := P) (w := w) (base := base) M_Stretch_show_counts S
  have SZ := ok_size_of_call (P := P) (w := w) (base := base) D_size_of_call t_SIZES k_BEGIN_CALL
  have AC := ok_answer_call D_answer_call S ⟨k_BEGIN_CALL, k_EVENT_CALL, k_TICKS_CALL, k_MARK_CALL, k_KEY_CALL, k_KEYS_CALL, k_SOON_CALL⟩
    ⟨BE.mono (by decide), EV.mono (by decide), PTk.mono (by decide), PMk.mono (by decide), SK.mono (by decide), SS.mono (by decide), SO.mono (by decide), CO.mono (by decide)⟩
  exact ok_answers F_answers T Mk_Stretch SI b_Stretch_init mc_Stretch SZ AC
end M
open PySem PySem.W PyProof.Rows
set_option maxRecDepth 100000 in
set_option maxHeartbeats 0 in
theorem PySem.Challenge.cw_panetriggers_s01_answers_holds : PySem.Challenge.rw_panetriggers_s01_answers.Holds := by
  w_on; k_headS; (case hw => exact ⟨[.list [.int 3]], by decide +kernel, by decide +kernel⟩)
  k_fillS
  refine L2.walk_specK (r := PySem.Challenge.rw_panetriggers_s01_answers) (k := 41) (CX := L2.CX0) (ps := ["calls"]) (sp := M.spAns) (by decide +kernel) rfl rfl ⟨rfl, by decide, by decide⟩ (fun w h Y => PySem.W.kIn_of Y) ?F ?S (fun _ _ _ _ z => z)
  case F =>
    intro w mg fa h Y KX G hmg
    refine' M.all_mk KX G hmg ?a_Pile ?a_Pile_init ?i_Pile_init ?l_Pile_init ?c_Pile_init ?k_Pile_init ?a_Pile_take ?i_Pile_take ?l_Pile_take ?c_Pile_take ?k_Pile_take ?a_Pile_tell ?i_Pile_tell ?l_Pile_tell ?c_Pile_tell ?k_Pile_tell ?a_Pile_make_pane ?i_Pile_make_pane ?l_Pile_make_pane ?c_Pile_make_pane ?k_Pile_make_pane ?a_Pile_show ?i_Pile_show ?l_Pile_show ?c_Pile_show ?k_Pile_show ?pg_Pile ?hd_Pile ?po_Pile ?sa_Pile ?mk_Pile ?kc_Pile ?na_Pile_key ?na_Pile_trigger ?na_Pile_new_count ?na_Pile_new_sum ?na_Pile_all_count ?na_Pile_all_sum ?na_Pile_panes ?na_Pile_last_pane ?a_Stretch ?a_Stretch_init ?i_Stretch_init ?l_Stretch_init ?c_Stretch_init ?k_Stretch_init ?a_Stretch_start_anew ?i_Stretch_start_anew ?l_Stretch_start_anew ?c_Stretch_start_anew ?k_Stretch_start_anew ?a_Stretch_begin ?i_Stretch_begin ?l_Stretch_begin ?c_Stretch_begin ?k_Stretch_begin ?a_Stretch_take_event ?i_Stretch_take_event ?l_Stretch_take_event ?c_Stretch_take_event ?k_Stretch_take_event ?a_Stretch_pass_ticks ?i_Stretch_pass_ticks ?l_Stretch_pass_ticks ?c_Stretch_pass_ticks ?k_Stretch_pass_ticks ?a_Stretch_pass_mark ?i_Stretch_pass_mark ?l_Stretch_pass_mark ?c_Stretch_pass_mark ?k_Stretch_pass_mark ?a_Stretch_show_key ?i_Stretch_show_key ?l_Stretch_show_key ?c_Stretch_show_key ?k_Stretch_show_key ?a_Stretch_show_keys ?i_Stretch_show_keys ?l_Stretch_show_keys ?c_Stretch_show_keys ?k_Stretch_show_keys ?a_Stretch_show_soon ?i_Stretch_show_soon ?l_Stretch_show_soon ?c_Stretch_show_soon ?k_Stretch_show_soon ?a_Stretch_show_counts ?i_Stretch_show_counts ?l_Stretch_show_counts ?c_Stretch_show_counts ?k_Stretch_show_counts ?a_Stretch_let_all_hear ?i_Stretch_let_all_hear ?l_Stretch_let_all_hear ?c_Stretch_let_all_hear ?k_Stretch_let_all_hear ?a_Stretch_let_hear ?i_Stretch_let_hear ?l_Stretch_let_hear ?c_Stretch_let_hear ?k_Stretch_let_hear ?a_Stretch_when_heard ?i_Stretch_when_heard ?l_Stretch_when_heard ?c_Stretch_when_heard ?k_Stretch_when_heard ?pg_Stretch ?hd_Stretch ?po_Stretch ?sa_Stretch ?mk_Stretch ?kc_Stretch ?na_Stretch_mode ?na_Stretch_empties ?na_Stretch_trigger ?na_Stretch_mark_passed ?na_Stretch_piles ?na_Stretch_taken ?na_Stretch_not_taken ?a_read_trigger ?l_read_trigger ?c_read_trigger ?k_read_trigger ?a_read_at ?l_read_at ?c_read_at ?k_read_at ?a_read_counted ?l_read_counted ?c_read_counted ?k_read_counted ?a_read_again ?l_read_again ?c_read_again ?k_read_again ?a_read_two ?l_read_two ?c_read_two ?k_read_two ?a_hear ?l_hear ?c_hear ?k_hear ?a_hear_simple ?l_hear_simple ?c_hear_simple ?k_hear_simple ?a_count_down ?l_count_down ?c_count_down ?k_count_down ?a_start_delay ?l_start_delay ?c_start_delay ?k_start_delay ?a_hear_again ?l_hear_again ?c_hear_again ?k_hear_again ?a_hear_turn ?l_hear_turn ?c_hear_turn ?k_hear_turn ?a_hear_once ?l_hear_once ?c_hear_once ?k_hear_once ?a_join_first ?l_join_first ?c_join_first ?k_join_first ?a_join_both ?l_join_both ?c_join_both ?k_join_both ?a_join_until ?l_join_until ?c_join_until ?k_join_until ?a_look_ahead ?l_look_ahead ?c_look_ahead ?k_look_ahead ?a_answers ?l_answers ?c_answers ?k_answers ?a_size_of_call ?l_size_of_call ?c_size_of_call ?k_size_of_call ?a_answer_call ?l_answer_call ?c_answer_call ?k_answer_call ?a_count_changes ?l_count_changes ?c_count_changes ?k_count_changes ?q_NEW_ONES ?q_ALL_WITH_TAKING_BACK ?q_TAKEN_BACK ?q_TOLD ?q_EVENT ?q_TICK ?q_MARK ?q_NTH ?q_DELAY ?q_AT_MARK ?q_NEVER ?q_AGAIN ?q_FIRST ?q_BOTH ?q_TURN ?q_UNTIL ?q_DELAYING ?q_ONCE ?q_FIRES ?q_LEFT ?q_MOST_NUMBERS ?q_DEEPEST ?q_MOST_COUNTED ?q_MOST_LOOKED_AHEAD ?q_BEGIN_CALL ?q_EVENT_CALL ?q_TICKS_CALL ?q_MARK_CALL ?q_KEY_CALL ?q_KEYS_CALL ?q_SOON_CALL ?q_EARLY ?q_BY_THE_MARK ?q_LATE ?q_LAST_KEY ?q_MOST_VALUE ?q_MOST_TICKS ?q_NUMBERS_OF_A_CHANGE ?q_SIZES ?l_SIZES ?z_len ?z_range ?z_sorted
    (case a_Pile => k_is)
    (case a_Pile_init => k_is)
    (case i_Pile_init => k_is)
    (case l_Pile_init => k_is)
    (case c_Pile_init => k_is)
    (case k_Pile_init => k_is)
    (case a_Pile_take => k_is)
    (case i_Pile_take => k_is)
    (case l_Pile_take => k_is)
    (case c_Pile_take => k_is)
    (case k_Pile_take => k_is)
    (case a_Pile_tell => k_is)
    (case i_Pile_tell => k_is)
    (case l_Pile_tell => k_is)
    (case c_Pile_tell => k_is)
    (case k_Pile_tell => k_is)
    (case a_Pile_make_pane => k_is)
    (case i_Pile_make_pane => k_is)
    (case l_Pile_make_pane => k_is)
    (case c_Pile_make_pane => k_is)
    (case k_Pile_make_pane => k_is)
    (case a_Pile_show => k_is)
    (case i_Pile_show => k_is)
    (case l_Pile_show => k_is)
    (case c_Pile_show => k_is)
    (case k_Pile_show => k_is)
    (case pg_Pile => k_is)
    (case hd_Pile => k_is)
    (case po_Pile => k_is)
    (case sa_Pile => k_is)
    (case mk_Pile => k_is)
    (case kc_Pile => k_is)
    (case na_Pile_key => k_is)
    (case na_Pile_trigger => k_is)
    (case na_Pile_new_count => k_is)
    (case na_Pile_new_sum => k_is)
    (case na_Pile_all_count => k_is)
    (case na_Pile_all_sum => k_is)
    (case na_Pile_panes => k_is)
    (case na_Pile_last_pane => k_is)
    (case a_Stretch => k_is)
    (case a_Stretch_init => k_is)
    (case i_Stretch_init => k_is)
    (case l_Stretch_init => k_is)
    (case c_Stretch_init => k_is)
    (case k_Stretch_init => k_is)
    (case a_Stretch_start_anew => k_is)
    (case i_Stretch_start_anew => k_is)
    (case l_Stretch_start_anew => k_is)
    (case c_Stretch_start_anew => k_is)
    (case k_Stretch_start_anew => k_is)
    (case a_Stretch_begin => k_is)
    (case i_Stretch_begin => k_is)
    (case l_Stretch_begin => k_is)
    (case c_Stretch_begin => k_is)
    (case k_Stretch_begin => k_is)
    (case a_Stretch_take_event => k_is)
    (case i_Stretch_take_event => k_is)
    (case l_Stretch_take_event => k_is)
    (case c_Stretch_take_event => k_is)
    (case k_Stretch_take_event => k_is)
    (case a_Stretch_pass_ticks => k_is)
    (case i_Stretch_pass_ticks => k_is)
    (case l_Stretch_pass_ticks => k_is)
    (case c_Stretch_pass_ticks => k_is)
    (case k_Stretch_pass_ticks => k_is)
    (case a_Stretch_pass_mark => k_is)
    (case i_Stretch_pass_mark => k_is)
    (case l_Stretch_pass_mark => k_is)
    (case c_Stretch_pass_mark => k_is)
    (case k_Stretch_pass_mark => k_is)
    (case a_Stretch_show_key => k_is)
    (case i_Stretch_show_key => k_is)
    (case l_Stretch_show_key => k_is)
    (case c_Stretch_show_key => k_is)
    (case k_Stretch_show_key => k_is)
    (case a_Stretch_show_keys => k_is)
    (case i_Stretch_show_keys => k_is)
    (case l_Stretch_show_keys => k_is)
    (case c_Stretch_show_keys => k_is)
    (case k_Stretch_show_keys => k_is)
    (case a_Stretch_show_soon => k_is)
    (case i_Stretch_show_soon => k_is)
    (case l_Stretch_show_soon => k_is)
    (case c_Stretch_show_soon => k_is)
    (case k_Stretch_show_soon => k_is)
    (case a_Stretch_show_counts => k_is)
    (case i_Stretch_show_counts => k_is)
    (case l_Stretch_show_counts => k_is)
    (case c_Stretch_show_counts => k_is)
    (case k_Stretch_show_counts => k_is)
    (case a_Stretch_let_all_hear => k_is)
    (case i_Stretch_let_all_hear => k_is)
    (case l_Stretch_let_all_hear => k_is)
    (case c_Stretch_let_all_hear => k_is)
    (case k_Stretch_let_all_hear => k_is)
    (case a_Stretch_let_hear => k_is)
    (case i_Stretch_let_hear => k_is)
    (case l_Stretch_let_hear => k_is)
    (case c_Stretch_let_hear => k_is)
    (case k_Stretch_let_hear => k_is)
    (case a_Stretch_when_heard => k_is)
    (case i_Stretch_when_heard => k_is)
    (case l_Stretch_when_heard => k_is)
    (case c_Stretch_when_heard => k_is)
    (case k_Stretch_when_heard => k_is)
    (case pg_Stretch => k_is)
    (case hd_Stretch => k_is)
    (case po_Stretch => k_is)
    (case sa_Stretch => k_is)
    (case mk_Stretch => k_is)
    (case kc_Stretch => k_is)
    (case na_Stretch_mode => k_is)
    (case na_Stretch_empties => k_is)
    (case na_Stretch_trigger => k_is)
    (case na_Stretch_mark_passed => k_is)
    (case na_Stretch_piles => k_is)
    (case na_Stretch_taken => k_is)
    (case na_Stretch_not_taken => k_is)
    (case a_read_trigger => k_is)
    (case l_read_trigger => k_is)
    (case c_read_trigger => k_is)
    (case k_read_trigger => k_is)
    (case a_read_at => k_is)
    (case l_read_at => k_is)
    (case c_read_at => k_is)
    (case k_read_at => k_is)
    (case a_read_counted => k_is)
    (case l_read_counted => k_is)
    (case c_read_counted => k_is)
    (case k_read_counted => k_is)
    (case a_read_again => k_is)
    (case l_read_again => k_is)
    (case c_read_again => k_is)
    (case k_read_again => k_is)
    (case a_read_two => k_is)
    (case l_read_two => k_is)
    (case c_read_two => k_is)
    (case k_read_two => k_is)
    (case a_hear => k_is)
    (case l_hear => k_is)
    (case c_hear => k_is)
    (case k_hear => k_is)
    (case a_hear_simple => k_is)
    (case l_hear_simple => k_is)
    (case c_hear_simple => k_is)
    (case k_hear_simple => k_is)
    (case a_count_down => k_is)
    (case l_count_down => k_is)
    (case c_count_down => k_is)
    (case k_count_down => k_is)
    (case a_start_delay => k_is)
    (case l_start_delay => k_is)
    (case c_start_delay => k_is)
    (case k_start_delay => k_is)
    (case a_hear_again => k_is)
    (case l_hear_again => k_is)
    (case c_hear_again => k_is)
    (case k_hear_again => k_is)
    (case a_hear_turn => k_is)
    (case l_hear_turn => k_is)
    (case c_hear_turn => k_is)
    (case k_hear_turn => k_is)
    (case a_hear_once => k_is)
    (case l_hear_once => k_is)
    (case c_hear_once => k_is)
    (case k_hear_once => k_is)
    (case a_join_first => k_is)
    (case l_join_first => k_is)
    (case c_join_first => k_is)
    (case k_join_first => k_is)
    (case a_join_both => k_is)
    (case l_join_both => k_is)
    (case c_join_both => k_is)
    (case k_join_both => k_is)
    (case a_join_until => k_is)
    (case l_join_until => k_is)
    (case c_join_until => k_is)
    (case k_join_until => k_is)
    (case a_look_ahead => k_is)
    (case l_look_ahead => k_is)
    (case c_look_ahead => k_is)
    (case k_look_ahead => k_is)
    (case a_answers => k_is)
    (case l_answers => k_is)
    (case c_answers => k_is)
    (case k_answers => k_is)
    (case a_size_of_call => k_is)
    (case l_size_of_call => k_is)
    (case c_size_of_call => k_is)
    (case k_size_of_call => k_is)
    (case a_answer_call => k_is)
    (case l_answer_call => k_is)
    (case c_answer_call => k_is)
    (case k_answer_call => k_is)
    (case a_count_changes => k_is)
    (case l_count_changes => k_is)
    (case c_count_changes => k_is)
    (case k_count_changes => k_is)
    (case q_NEW_ONES => k_is)
    (case q_ALL_WITH_TAKING_BACK => k_is)
    (case q_TAKEN_BACK => k_is)
    (case q_TOLD => k_is)
    (case q_EVENT => k_is)
    (case q_TICK => k_is)
    (case q_MARK => k_is)
    (case q_NTH => k_is)
    (case q_DELAY => k_is)
    (case q_AT_MARK => k_is)
    (case q_NEVER => k_is)
    (case q_AGAIN => k_is)
    (case q_FIRST => k_is)
    (case q_BOTH => k_is)
    (case q_TURN => k_is)
    (case q_UNTIL => k_is)
    (case q_DELAYING => k_is)
    (case q_ONCE => k_is)
    (case q_FIRES => k_is)
    (case q_LEFT => k_is)
    (case q_MOST_NUMBERS => k_is)
    (case q_DEEPEST => k_is)
    (case q_MOST_COUNTED => k_is)
    (case q_MOST_LOOKED_AHEAD => k_is)
    (case q_BEGIN_CALL => k_is)
    (case q_EVENT_CALL => k_is)
    (case q_TICKS_CALL => k_is)
    (case q_MARK_CALL => k_is)
    (case q_KEY_CALL => k_is)
    (case q_KEYS_CALL => k_is)
    (case q_SOON_CALL => k_is)
    (case q_EARLY => k_is)
    (case q_BY_THE_MARK => k_is)
    (case q_LATE => k_is)
    (case q_LAST_KEY => k_is)
    (case q_MOST_VALUE => k_is)
    (case q_MOST_TICKS => k_is)
    (case q_NUMBERS_OF_A_CHANGE => k_is)
    (case q_SIZES => k_is)
    (case l_SIZES => k_is)
    (case z_len => k_is)
    (case z_range => k_is)
    (case z_sorted => k_is)
  case S =>
    intro K H xs a hO hwi hask hx
    cases hx with
    | cons h1 h2 =>
      cases h2
      cases h1 with
      | lst hs ha =>
        have e := L2.ints_dw a.1 _ ha
        subst e
        have q : ((Codec.inLen 0 4500 a.1 && a.1.all (Codec.inInt 0 4294967295)) && true) = true := hwi
        rw [Bool.and_eq_true, Bool.and_eq_true] at q
        exact M.request hs q.1.2 hask
#print axioms PySem.Challenge.cw_panetriggers_s01_answers_holds

end
