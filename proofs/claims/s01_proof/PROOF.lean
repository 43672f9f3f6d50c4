import PyProof.Rows.All
import Wide.All
import OpenK.AllK
import Wide.FinOn
import PyProof.EqAt
import PyProof.EqKinds
import PyProof.TupleCall
import KE.BitLaws
import Open.SpecLaws
import KE.OsHead
import KE.OsGo
import KE.KSortTupG
import KE.KSortKeyAny
import PySem.Challenge.RW_maysee_s01_answers
set_option Elab.async false
set_option linter.all false
set_option maxRecDepth 100000
namespace L2
open PySem PySem.Spec PyProof.Rows
abbrev Key := Sum Int Str
def keyIs : Key → Value → Bool
  | .inl k, v => Value.isInt k v
  | .inr x, v => Value.isStrOf x v
def keyH (w : World) : Key → Int
  | .inl k => hashInt k
  | .inr x => hashStr w x
theorem keyIs_shape : ∀ {k : Key} {v : Value}, keyIs k v = true → (∃ i t, k = Sum.inl i ∧ v = Value.int i t) ∨ (∃ x t, k = Sum.inr x ∧ v = Value.str x t)
  | .inl i, v, h => by
    obtain ⟨t, e⟩ := Value.isInt_shape (k := i) (v := v) h
    exact .inl ⟨i, t, rfl, e⟩
  | .inr x, v, h => by
    obtain ⟨t, e⟩ := Value.isStrOf_shape (x := x) (v := v) h
    exact .inr ⟨x, t, rfl, e⟩
theorem keyIs_int (i : Int) (t : Tok) : keyIs (.inl i) (.int i t) = true := by simp [keyIs, Value.isInt]
theorem keyIs_str (x : Str) (t : Tok) : keyIs (.inr x) (.str x t) = true := by simp [keyIs, Value.isStrOf]
theorem key_ll (a b : Int) : decide ((Sum.inl a : Key) = Sum.inl b) = (a == b) := by
  by_cases e : a = b
  · subst e; simp
  · have h : ¬ (Sum.inl a : Key) = Sum.inl b := fun q => e (Sum.inl.inj q)
    rw [decide_eq_false h]
    exact (beq_eq_false_iff_ne.mpr e).symm
theorem key_rr (a b : Str) : decide ((Sum.inr a : Key) = Sum.inr b) = decide (a = b) := by
  by_cases e : a = b
  · subst e; simp
  · have h : ¬ (Sum.inr a : Key) = Sum.inr b := fun q => e (Sum.inr.inj q)
    rw [decide_eq_false h, decide_eq_false e]
theorem key_lr (a : Int) (b : Str) : decide ((Sum.inl a : Key) = Sum.inr b) = false := decide_eq_false (fun q => nomatch q)
theorem key_rl (a : Str) (b : Int) : decide ((Sum.inr a : Key) = Sum.inl b) = false := decide_eq_false (fun q => nomatch q)
def mixKind (prog : Program) (w : World) : PySem.KeyKind prog w Key where
  is := keyIs
  hash := keyH w
  inj := fun v a b ha hb => by
    rcases keyIs_shape ha with ⟨i, t, rfl, rfl⟩ | ⟨x, t, rfl, rfl⟩
    · rcases keyIs_shape hb with ⟨j, u, rfl, e⟩ | ⟨y, u, rfl, e⟩
      · injection e with e1 _; rw [e1]
      · exact nomatch e
    · rcases keyIs_shape hb with ⟨j, u, rfl, e⟩ | ⟨y, u, rfl, e⟩
      · exact nomatch e
      · injection e with e1 _; rw [e1]
  byValue := fun k v h => by
    rcases keyIs_shape h with ⟨i, t, rfl, rfl⟩ | ⟨x, t, rfl, rfl⟩ <;> rfl
  pyHash := fun hv h => by
    rcases keyIs_shape hv with ⟨i, t, rfl, rfl⟩ | ⟨x, t, rfl, rfl⟩
    · exact wpAny_pyHash_int h
    · exact wpAny_pyHash_str h
  eqBool := fun hu hv h => by
    rcases keyIs_shape hu with ⟨i, t, rfl, rfl⟩ | ⟨x, t, rfl, rfl⟩
    · rcases keyIs_shape hv with ⟨j, u, rfl, rfl⟩ | ⟨y, u, rfl, rfl⟩
      · rw [key_ll] at h; exact wpAny_eqBool_int h
      · rw [key_lr] at h; exact SeqAt.EqAt.int_str i t y u _ _ _ _ h
    · rcases keyIs_shape hv with ⟨j, u, rfl, rfl⟩ | ⟨y, u, rfl, rfl⟩
      · rw [key_rl] at h; exact SeqAt.EqAt.str_int x t j u _ _ _ _ h
      · rw [key_rr] at h; exact wpAny_eqBool_str h
  «strs» := fun k x t v h => by
    rcases keyIs_shape h with ⟨i, u, rfl, e⟩ | ⟨y, u, rfl, e⟩
    · exact nomatch e
    · injection e with e1 _
      subst e1
      cases v <;> rfl
theorem mixKind_int (prog : Program) (w : World) (i : Int) (t : Tok) : (mixKind prog w).is (.inl i) (.int i t) = true := keyIs_int i t
theorem mixKind_str (prog : Program) (w : World) (x : Str) (t : Tok) : (mixKind prog w).is (.inr x) (.str x t) = true := keyIs_str x t
end L2
namespace L2
open PySem PySem.Spec PyProof.Rows
inductive V where
  | non | bl (b : Bool) | int (i : Int) | str (x : Str) | byt (b : Array UInt8) | flt (b : UInt64) | ref (a : Addr) | ty (n : String)
  deriving DecidableEq
def RelV : V → Value → Prop
  | .non, u => u = Value.none
  | .bl b, u => u = Value.bool b
  | .int i, u => ∃ t, u = Value.int i t
  | .str x, u => ∃ t, u = Value.str x t
  | .byt b, u => ∃ t, u = Value.bytes b t
  | .flt b, u => ∃ t, u = Value.float b t
  | .ref a, u => u = Value.ref a
  | .ty n, u => u = Value.type n
abbrev Vals : List V → List Value → Prop := Paired RelV
theorem Vals.length {xs : List V} {us : List Value} (r : Vals xs us) : xs.length = us.length := Paired.length r
theorem Vals.get : ∀ {xs : List V} {us : List Value} {i : Nat} {x : V}, Vals xs us → xs[i]? = some x → ∃ u, us[i]? = some u ∧ RelV x u
  | _, _, _, _, .nil, e => by simp at e
  | _, _, 0, _, .cons r _, e => by simp at e; subst e; exact ⟨_, rfl, r⟩
  | _, _, i + 1, x, .cons _ t, e => by
    obtain ⟨u, h1, h2⟩ := Vals.get (i := i) (x := x) t (by simpa using e)
    exact ⟨u, by simpa using h1, h2⟩
theorem Vals.set {x : V} {u : Value} (r : RelV x u) : ∀ {xs : List V} {us : List Value} (i : Nat), Vals xs us → Vals (xs.set i x) (us.set i u)
  | _, _, _, .nil => .nil
  | _, _, 0, .cons _ t => .cons r t
  | _, _, i + 1, .cons q t => .cons q (Vals.set r i t)
theorem Vals.append : ∀ {xs ys : List V} {us ws : List Value}, Vals xs us → Vals ys ws → Vals (xs ++ ys) (us ++ ws)
  | _, _, _, _, .nil, s => s
  | _, _, _, _, .cons r t, s => .cons r (Vals.append t s)
theorem Vals.take : ∀ {xs : List V} {us : List Value} (n : Nat), Vals xs us → Vals (xs.take n) (us.take n)
  | _, _, 0, _ => .nil
  | _, _, _ + 1, .nil => .nil
  | _, _, n + 1, .cons r t => .cons r (Vals.take n t)
theorem Vals.drop : ∀ {xs : List V} {us : List Value} (n : Nat), Vals xs us → Vals (xs.drop n) (us.drop n)
  | _, _, 0, r => r
  | _, _, _ + 1, .nil => .nil
  | _, _, n + 1, .cons _ t => Vals.drop n t
theorem Vals.none_of : ∀ {xs : List V} {us : List Value} {i : Nat}, Vals xs us → xs[i]? = none → us[i]? = none := fun {xs us i} r e => by
  have h1 := r.length
  have h2 : xs.length ≤ i := List.getElem?_eq_none_iff.mp e
  exact List.getElem?_eq_none_iff.mpr (by omega)
def RelO : Option V → Option Value → Prop
  | some v, some u => RelV v u
  | none, none => True
  | _, _ => False
def KV {κ : Type} : List (κ × V) → List (κ × Value) → Prop := Paired fun (p : κ × V) (q : κ × Value) => p.1 = q.1 ∧ RelV p.2 q.2
def kV : Key → V
  | .inl i => .int i
  | .inr x => .str x
inductive HO where
  /-- a list -/
  | lst (xs : List V)
  /-- a tuple (never changes) -/
  | tup (xs : List V)
  /-- a dict whose keys are ints and texts; one whose keys are tuples of ints and texts (the empty one is both) -/
  | dK (kvs : List (Key × V)) | dT (kvs : List (List Key × V))
  /-- a set of ints: its members, its size -/
  | set (S : Int → Bool) (n : Nat)
  /-- an instance of the class at C, its dict at dx, its attributes -/
  | ins (C dx : Addr) (fs : List (Str × V))
  /-- the dict of the instance at x -/
  | own (x : Addr)
  /-- the dict of an exception -/
  | xd (fs : List (Str × V))
  /-- a bound method, f of x -/
  | met (f x : Addr)
  /-- a range object lo, lo + 1, .. below hi -/
  | rng (lo hi : Int)
  /-- a thing that is known to the object (the script; a dict while a loop walks it): read, never written while it is so -/
  | frz (o : Obj) (u : HO)
  /-- a code object's table -/
  | tbl (ps : Array Value)
  /-- any other thing, by what is true of its one object (a def of one's own: SetO a S n := HO.ext fun h => ..) -/
  | ext (φ : Heap → Prop)
abbrev Hp := Addr → Option HO
def upd (H : Hp) (a : Addr) (o : HO) : Hp := fun b => if b = a then some o else H b
theorem upd_same {H : Hp} {a : Addr} {o : HO} : upd H a o a = some o := by unfold upd; rw [if_pos rfl]
theorem upd_ne {H : Hp} {a b : Addr} {o : HO} (h : b ≠ a) : upd H a o b = H b := by unfold upd; rw [if_neg h]
theorem upd_upd {H : Hp} {a : Addr} {o u : HO} : upd (upd H a o) a u = upd H a u := by
  funext b; unfold upd; split <;> rfl
theorem ne_of {H : Hp} {a b : Addr} {o u : HO} (h : H a = some o) (h' : H b = some u) (d : o ≠ u) : a ≠ b := by
  intro e; subst e; rw [h] at h'; exact d (Option.some.inj h')
theorem ne_of_none {H : Hp} {a b : Addr} {o : HO} (h : H a = some o) (h' : H b = none) : a ≠ b := by
  intro e; subst e; rw [h] at h'; cases h'
section
variable (P : Program) (w : World)
def ObjOk (H : Hp) (h : Heap) (a : Addr) : HO → Prop
  | .lst xs => xs.length ≤ sizeLine ∧ ∃ (its : List Value) (n : Nat), Vals xs its ∧ h.get? a = some { cls := .type "list", data := .seq its.toArray n }
  | .tup xs => xs.length ≤ sizeLine ∧ ∃ its : List Value, Vals xs its ∧ IsTup h a its.toArray
  | .dK kvs => kvs.length ≤ sizeLine ∧ (a == sysModules) = false ∧ ∃ vs, KV kvs vs ∧ h.DictOf (mixKind P w) a vs
  | .dT kvs => kvs.length ≤ sizeLine ∧ (a == sysModules) = false ∧ ∃ xs : List (List Key × Addr × Value),
      Paired (fun (p : List Key × V) (q : List Key × Addr × Value) => p.1 = q.1 ∧ H q.2.1 = some (.tup (p.1.map kV)) ∧ RelV p.2 q.2.2) kvs xs ∧
      ∃ o es ep, h.get? a = some o ∧ o.ExactDict ∧ o.data = .dict es ep ∧ es.toList = xs.map (entryOfKey (tupleKind (mixKind P w))) ∧ (xs.map (·.1)).Nodup
  | .set S n => h.SetOf (intKind P w) a S n
  | .ins C dx fs => H dx = some (.own a) ∧ fs.length ≤ 1000 ∧ dx ≠ a ∧ h.get? a = some (PySem.W.instObj C dx) ∧
      ∃ mA, h.Ns1 dx mA ∧ (∀ f, RelO (fs.lookup f) (mA f)) ∧ PySem.Within mA (fs.map (·.1))
  | .own _ => ∃ o, h.get? a = some o
  | .xd fs => ∃ mA, h.Ns1 a mA ∧ ∀ f, RelO (fs.lookup f) (mA f)
  | .rng lo hi => ∃ t u v, h.get? a = some { cls := .type "range", data := .fields #[.int lo t, .int hi u, .int 1 v] }
  | .frz o u => h.get? a = some o ∧ ObjOk H h a u
  | .tbl ps => h.get? a = some { cls := .none, data := .fields ps }
  | .met f x => h.get? a = some (PySem.W.methodObj (.ref f) (.ref x))
  | .ext φ => φ h ∧ (∃ o, h.get? a = some o) ∧ ∀ h1 h2 : Heap, φ h1 → (∀ o, h1.get? a = some o → h2.get? a = some o) → φ h2
def HOk (H : Hp) (h : Heap) : Prop := ∀ a o, H a = some o → ObjOk P w H h a o
end
section
variable {P : Program} {w : World} {H H' : Hp} {h h' : Heap} {a : Addr} {o : HO}
theorem ObjOk.lt (x : ObjOk P w H h a o) : a < h.objs.size := by
  cases o with
  | lst xs => obtain ⟨_, _, _, _, e⟩ := x; exact Heap.lt_size e
  | tup xs => obtain ⟨_, _, _, p⟩ := x; exact p.lt
  | dK kvs => obtain ⟨_, _, _, _, o, _, _, e, _⟩ := x; exact Heap.lt_size e
  | dT kvs => obtain ⟨_, _, _, _, o, _, _, e, _⟩ := x; exact Heap.lt_size e
  | set S n => obtain ⟨o, _, _, _, e, _⟩ := x; exact Heap.lt_size e
  | ins C dx fs => obtain ⟨_, _, _, e, _⟩ := x; exact Heap.lt_size e
  | own y => obtain ⟨_, e⟩ := x; exact Heap.lt_size e
  | xd fs => obtain ⟨_, ⟨_, _, _, e, _⟩, _⟩ := x; exact Heap.lt_size e
  | rng lo hi => obtain ⟨_, _, _, e⟩ := x; exact Heap.lt_size e
  | frz ob u => obtain ⟨e, _⟩ := x; exact Heap.lt_size e
  | tbl ps => exact Heap.lt_size (show h.get? a = some _ from x)
  | met f y => exact Heap.lt_size (show h.get? a = some _ from x)
  | ext φ => obtain ⟨_, ⟨_, e⟩, _⟩ := x; exact Heap.lt_size e
theorem Paired.mapP {α β : Type} {F G : α → β → Prop} : ∀ {l₁ : List α} {l₂ : List β}, Paired F l₁ l₂ → (∀ a b, F a b → G a b) → Paired G l₁ l₂
  | _, _, .nil, _ => .nil
  | _, _, .cons r t, f => .cons (f _ _ r) (Paired.mapP t f)
theorem ObjOk.stay (x : ObjOk P w H h a o) (k : ∀ b u, (b = a ∨ H b = some (.own a)) → h.get? b = some u → h'.get? b = some u)
    (ho : ∀ b, H b = some (.own a) → H' b = some (.own a)) (ht : ∀ b xs, H b = some (.tup xs) → H' b = some (.tup xs)) : ObjOk P w H' h' a o := by
  induction o with
  | lst xs => obtain ⟨z, its, n, r, e⟩ := x; exact ⟨z, its, n, r, k _ _ (.inl rfl) e⟩
  | tup xs => obtain ⟨z, its, r, ob, e, c⟩ := x; exact ⟨z, its, r, ob, k _ _ (.inl rfl) e, c⟩
  | dK kvs => obtain ⟨z, y, vs, r, ob, es, ep, e, c⟩ := x; exact ⟨z, y, vs, r, ob, es, ep, k _ _ (.inl rfl) e, c⟩
  | dT kvs =>
    obtain ⟨z, y, xs, r, ob, es, ep, e, c⟩ := x
    exact ⟨z, y, xs, Paired.mapP r fun p q z => ⟨z.1, ht _ _ z.2.1, z.2.2⟩, ob, es, ep, k _ _ (.inl rfl) e, c⟩
  | set S n => obtain ⟨ob, es, ep, t, e, c⟩ := x; exact ⟨ob, es, ep, t, k _ _ (.inl rfl) e, c⟩
  | ins C dx fs =>
    obtain ⟨d, z, ne, e, mA, ⟨od, es, ep, e2, c⟩, r⟩ := x
    exact ⟨ho _ d, z, ne, k _ _ (.inl rfl) e, mA, ⟨od, es, ep, k _ _ (.inr d) e2, c⟩, r⟩
  | own y => obtain ⟨ob, e⟩ := x; exact ⟨ob, k _ _ (.inl rfl) e⟩
  | xd fs => obtain ⟨mA, ⟨od, es, ep, e, c⟩, r⟩ := x; exact ⟨mA, ⟨od, es, ep, k _ _ (.inl rfl) e, c⟩, r⟩
  | rng lo hi => obtain ⟨t, u, v, e⟩ := x; exact ⟨t, u, v, k _ _ (.inl rfl) e⟩
  | frz ob u ih => obtain ⟨e, q⟩ := x; exact ⟨k _ _ (.inl rfl) e, ih q⟩
  | tbl ps =>
    have e : h.get? a = some { cls := .none, data := .fields ps } := x
    show h'.get? a = some { cls := .none, data := .fields ps }
    exact k a _ (.inl rfl) e
  | met f y =>
    have e : h.get? a = some (PySem.W.methodObj (.ref f) (.ref y)) := x
    show h'.get? a = some (PySem.W.methodObj (.ref f) (.ref y))
    exact k a _ (.inl rfl) e
  | ext φ => obtain ⟨p, ⟨o, e⟩, st⟩ := x; exact ⟨st _ _ p fun o q => k _ _ (.inl rfl) q, ⟨o, k _ _ (.inl rfl) e⟩, st⟩
theorem HOk.lt (x : HOk P w H h) (e : H a = some o) : a < h.objs.size := (x a o e).lt
theorem HOk.fresh (x : HOk P w H h) (e : h.objs.size ≤ a) : H a = none := by
  cases q : H a with
  | none => rfl
  | some u => exact absurd (Nat.lt_of_lt_of_le (x.lt q) e) (Nat.lt_irrefl _)
theorem HOk.kept (x : HOk P w H h) (k : ∀ b u, h.get? b = some u → h'.get? b = some u) : HOk P w H h' := fun a o e =>
  (x a o e).stay (fun b u _ q => k b u q) (fun _ q => q) fun _ _ q => q
theorem HOk.laid (x : HOk P w H h) (k : ∀ b u, h.get? b = some u → h'.get? b = some u) (hp : h.objs.size ≤ a) (new : ObjOk P w (upd H a o) h' a o) : HOk P w (upd H a o) h' := fun b u e => by
  have hn := x.fresh hp
  by_cases hb : b = a
  · subst hb; rw [upd_same] at e; cases e; exact new
  · rw [upd_ne hb] at e
    exact (x b u e).stay (fun c v _ q => k c v q) (fun c q => by rw [upd_ne (ne_of_none q hn)]; exact q) fun c xs q => by rw [upd_ne (ne_of_none q hn)]; exact q
end
def Rd (H : Hp) (a : Addr) (u : HO) : Prop := H a = some u ∨ ∃ o, H a = some (.frz o u)
theorem Rd.of {H : Hp} {a : Addr} {u : HO} (h : H a = some u) : Rd H a u := .inl h
theorem Rd.ok {P : Program} {w : World} {H : Hp} {h : Heap} {a : Addr} {u : HO} (r : Rd H a u) (x : HOk P w H h) : ObjOk P w H h a u := by
  rcases r with r | ⟨o, r⟩
  · exact x a u r
  · obtain ⟨_, q⟩ := x a _ r
    exact q
def Mut : Option HO → Prop
  | some (.lst _) => True
  | some (.dK _) => True
  | some (.dT _) => True
  | some (.set _ _) => True
  | some (.ins _ _ _) => True
  | some (.ext _) => True
  | _ => False
section
variable {P : Program} {w : World} {H : Hp} {h h' : Heap} {x e : Addr} {o' : HO}
theorem HOk.write (ok : HOk P w H h) (mu : Mut (H x)) (he : e = x ∨ H e = some (.own x)) (k : ∀ b u, b ≠ e → h.get? b = some u → h'.get? b = some u) (heo : ∃ u, h'.get? e = some u)
    (new : ObjOk P w (upd H x o') h' x o') : HOk P w (upd H x o') h' := fun b u q => by
  have nown : ∀ c y, H c = some (.own y) → c ≠ x := fun c y r z => by subst z; rw [r] at mu; exact mu
  have ntup : ∀ c xs, H c = some (.tup xs) → c ≠ x := fun c xs r z => by subst z; rw [r] at mu; exact mu
  by_cases hb : b = x
  · subst hb; rw [upd_same] at q; cases q; exact new
  · rw [upd_ne hb] at q
    by_cases hbe : b = e
    · have q' : H b = some (.own x) := by
        rcases he with z | z
        · exact absurd (hbe.trans z) hb
        · rw [hbe]; exact z
      rw [q] at q'; cases q'
      obtain ⟨v, hv⟩ := heo
      exact ⟨v, by rw [hbe]; exact hv⟩
    · refine (ok b u q).stay (fun c v hc r => k c v ?_ r) (fun c r => by rw [upd_ne (nown c b r)]; exact r) fun c xs r => by rw [upd_ne (ntup c xs r)]; exact r
      rcases hc with rfl | hc
      · exact hbe
      · rintro rfl
        rcases he with z | z
        · exact nown c b hc z
        · rw [hc] at z; cases z; exact hb rfl
end
structure Un (fs ex : List Addr) (H H' : Hp) (h h' : Heap) : Prop where
  keep : ∀ b o, h.get? b = some o → H b = none → b ∉ fs → b ∉ ex → h'.get? b = some o
  slot : ∀ b o, h.get? b = some o → H b = none → b ∈ fs → b ∉ ex → ∃ sl, h'.get? b = some { o with slots := sl }
  free : ∀ b o, h.get? b = some o → H b = none → b ∉ ex → H' b = none
  there : ∀ b o, h.get? b = some o → b ∉ ex → ∃ o', h'.get? b = some o'
  tups : ∀ b xs, H b = some (.tup xs) → H' b = some (.tup xs)
  frzs : ∀ b o u, H b = some (.frz o u) → H' b = some (.frz o u)
  tbls : ∀ b ps, H b = some (.tbl ps) → ∃ more, H' b = some (.tbl (ps ++ more))
section
variable {fs fs' ex ex' : List Addr} {H H1 H2 : Hp} {h h1 h2 h' : Heap} {a x e : Addr} {o : HO}
theorem Un.any (u : Un fs ex H H1 h h1) {b : Addr} {ob : Obj} (q : h.get? b = some ob) (n : H b = none) (hx : b ∉ ex) : ∃ sl, h1.get? b = some { ob with slots := sl } := by
  by_cases hb : b ∈ fs
  · exact u.slot b ob q n hb hx
  · exact ⟨ob.slots, u.keep b ob q n hb hx⟩
theorem Un.trans (a : Un fs ex H H1 h h1) (b : Un fs ex H1 H2 h1 h2) : Un fs ex H H2 h h2 where
  keep := fun c ob q n hc hx => b.keep c ob (a.keep c ob q n hc hx) (a.free c ob q n hx) hc hx
  slot := fun c ob q n hc hx => by
    obtain ⟨sl, e1⟩ := a.slot c ob q n hc hx
    obtain ⟨sl', e2⟩ := b.slot c _ e1 (a.free c ob q n hx) hc hx
    exact ⟨sl', e2⟩
  free := fun c ob q n hx => by
    obtain ⟨o', e1⟩ := a.there c ob q hx
    exact b.free c o' e1 (a.free c ob q n hx) hx
  there := fun c ob q hx => by
    obtain ⟨o', e1⟩ := a.there c ob q hx
    exact b.there c o' e1 hx
  tups := fun c xs q => b.tups c xs (a.tups c xs q)
  frzs := fun c ob xs q => b.frzs c ob xs (a.frzs c ob xs q)
  tbls := fun c ps q => by
    obtain ⟨m1, e1⟩ := a.tbls c ps q
    obtain ⟨m2, e2⟩ := b.tbls c _ e1
    exact ⟨m1 ++ m2, by rw [e2, Array.append_assoc]⟩
theorem Un.kept (k : ∀ b u, h.get? b = some u → h'.get? b = some u) : Un fs ex H H h h' :=
  ⟨fun b ob q _ _ _ => k b ob q, fun b ob q _ _ _ => ⟨ob.slots, k b ob q⟩, fun _ _ _ n _ => n, fun b ob q _ => ⟨ob, k b ob q⟩, fun _ _ q => q, fun _ _ _ q => q, fun _ ps q => ⟨#[], by rw [q]; simp⟩⟩
theorem Un.refl : Un fs ex H H h h := Un.kept fun _ _ q => q
theorem Un.laid (k : ∀ b u, h.get? b = some u → h'.get? b = some u) (hp : h.objs.size ≤ a) (hn : H a = none) : Un fs ex H (upd H a o) h h' where
  keep := fun b u q _ _ _ => k b u q
  slot := fun b u q _ _ _ => ⟨u.slots, k b u q⟩
  free := fun b u q n _ => by rw [upd_ne (Nat.ne_of_lt (Nat.lt_of_lt_of_le (Heap.lt_size q) hp))]; exact n
  there := fun b u q _ => ⟨u, k b u q⟩
  tups := fun b xs q => by rw [upd_ne (ne_of_none q hn)]; exact q
  frzs := fun b u xs q => by rw [upd_ne (ne_of_none q hn)]; exact q
  tbls := fun b ps q => ⟨#[], by rw [upd_ne (ne_of_none q hn), q]; simp⟩
theorem Un.write (mu : Mut (H x)) (he : e = x ∨ H e = some (.own x)) (k : ∀ b u, b ≠ e → h.get? b = some u → h'.get? b = some u) (heo : ∃ u, h'.get? e = some u) : Un fs ex H (upd H x o) h h' := by
  have hx : ∀ b, H b = none → b ≠ x := fun b n z => by subst z; rw [n] at mu; exact mu
  have hb : ∀ b, H b = none → b ≠ e := fun b n z => by
    subst z
    rcases he with r | r
    · exact hx b n r
    · rw [n] at r; cases r
  have hm : ∀ b u, H b = some u → ¬ Mut (some u) → b ≠ x := fun b u q nm z => by subst z; rw [q] at mu; exact nm mu
  refine ⟨fun b u q n _ _ => k b u (hb b n) q, fun b u q n _ _ => ⟨u.slots, k b u (hb b n) q⟩, fun b u q n _ => by rw [upd_ne (hx b n)]; exact n, fun b u q _ => ?_,
    fun b xs q => by rw [upd_ne (hm b _ q fun z => z)]; exact q, fun b u xs q => by rw [upd_ne (hm b _ q fun z => z)]; exact q, fun b ps q => ⟨#[], by rw [upd_ne (hm b _ q fun z => z), q]; simp⟩⟩
  by_cases hbe : b = e
  · subst hbe; exact heo
  · exact ⟨u, k b u hbe q⟩
theorem Un.mono (u : Un fs ex H H1 h h1) (hs : ∀ b ∈ fs, b ∈ fs') (hx : ∀ b ∈ ex, b ∈ ex') : Un fs' ex' H H1 h h1 :=
  ⟨fun b ob q n hb he => u.keep b ob q n (fun z => hb (hs b z)) fun z => he (hx b z), fun _ _ q n _ he => u.any q n fun z => he (hx _ z), fun b ob q n he => u.free b ob q n fun z => he (hx b z), fun b ob q he => u.there b ob q fun z => he (hx b z), u.tups, u.frzs, u.tbls⟩
end
def trk (h : Heap) (H : Hp) : List Addr := (List.range h.objs.size).filter fun a => (H a).isSome
def hidT (h : Heap) (H : Hp) : Heap := PySem.W.hideAll h (trk h H)
theorem hidT_size (h : Heap) (H : Hp) : (hidT h H).objs.size = h.objs.size := PySem.W.hideAll_size _ _
theorem hidT_get {h : Heap} {H : Hp} {b : Addr} {o : Obj} (e : h.get? b = some o) (n : H b = none) : (hidT h H).get? b = some o :=
  PySem.W.hideAll_get _ e fun hm => by
    have q : (H b).isSome = true := (List.mem_filter.mp hm).2
    rw [n] at q; simp at q
theorem of_hidT {h : Heap} {H : Hp} {b : Addr} {o : Obj} (e : (hidT h H).get? b = some o) : h.get? b = some o ∧ H b = none := by
  have e' : h.get? b = some o := PySem.W.of_hideAll (trk h H) e
  refine ⟨e', ?_⟩
  cases q : H b with
  | none => rfl
  | some x =>
    have hm : b ∈ trk h H := List.mem_filter.mpr ⟨List.mem_range.mpr (Heap.lt_size e'), by simp [q]⟩
    have z : (hidT h H).get? b = none := PySem.W.hideAll_none (trk h H) hm
    rw [z] at e; cases e
def allNews (g h : Heap) (L : Addr) : List (Addr × Obj) := (List.range h.objs.size).filterMap fun a => if a = L ∨ (g.get? a).isSome = true then none else (h.get? a).map fun o => (a, o)
def rest (g h : Heap) (L d : Addr) : List (Addr × Obj) := (allNews g h L).filter fun p => decide (p.1 ≠ d)
end L2
namespace L2
open PySem PySem.Spec PyProof.Rows
structure Mod (K : PySem.W.Frag) (mg : Str → Option Value) (base : Heap) : Prop where
  kin : K.In base
  glob : base.Ns mainGlobals mg
  blt : ∃ mb, base.Ns builtinsNs mb ∧ ∀ x : Str, x ≠ "__name__" → mb x = bootBuiltins x
  nolimit : base.NoLimit
structure Cx where
  prog : Program
  w : World
  K : PySem.W.Frag
  mg : Str → Option Value
  base : Heap
  A : Around
  N : List Str
  s_0 : Shared
  H_0 : Hp
  env : Env
  outer : List Env
  stack : List Env
  ex : List Addr
  fn : Str → Bool
  calm : Bool
  pn : List (Addr × Obj)
  xe : Value → Shared → Prop
def frs (l : List Env) : List Addr := l.filterMap (·.frame)
abbrev Cx.fs (X : Cx) : List Addr := frs X.outer
def Vis (sc : Scope) (x : Str) : Prop := sc.names.lookup x = some .local ∨ sc.names.lookup x = some .cell ∨ sc.names.lookup x = some .free
def Loc (sc : Scope) (x : Str) : Prop := sc.names.lookup x = some .local ∨ sc.names.lookup x = some .cell
def Look (env : Env) (h : Heap) (m : Str → Option Value) (x : Str) (u : Value) : Prop :=
  (env.kindOf x = some .local ∧ m x = some u) ∨ ((env.kindOf x = some .cell ∨ env.kindOf x = some .free) ∧ ∃ c, env.cells.lookup x = some c ∧ h.IsCell c (some u))
structure Cx.Ok (X : Cx) : Prop where
  mod : Mod X.K X.mg X.base
  kind : X.env.scope.kind = .function
  glob : X.env.globals = mainGlobals
  blt : X.env.builtins = builtinsNs
  above : X.s_0.heap.objs.size ≤ X.env.locals
  inj : ∀ x y c, X.env.cells.lookup x = some c → X.env.cells.lookup y = some c → x = y
  has : ∀ x, (X.env.kindOf x = some .cell ∨ X.env.kindOf x = some .free) → ∃ c, X.env.cells.lookup x = some c
  cab : ∀ x c, X.fn x = true → X.env.cells.lookup x = some c → X.s_0.heap.objs.size ≤ c
  hd : X.calm = true → X.A.handled = none
  frames : X.A.frames = some X.stack
  stk : X.stack = X.outer ∨ (X.stack = X.env :: X.outer ∧ X.env.frame = some X.env.locals)
  exf : ∀ b ∈ X.ex, b ≠ X.env.locals ∧ ∀ x c, X.env.cells.lookup x = some c → c ≠ b
  bs : ∀ b o, X.base.get? b = some o → X.s_0.heap.get? b = some o ∧ X.H_0 b = none
  bsz : X.base.objs.size ≤ X.s_0.heap.objs.size
  noex : ∀ b o, X.base.get? b = some o → b ∉ X.ex
  exfs : ∀ b ∈ X.ex, b ∉ X.fs
  funs : X.s_0.heap.FunFrames X.base X.outer
  frf : ∀ b ∈ X.fs, X.H_0 b = none
structure Inv (X : Cx) (pins : List (Addr × Obj)) (σ : List (Option V)) (H : Hp) (s : Shared) : Prop where
  ok : X.Ok
  os : s.os = X.s_0.os
  bare : AllBare s.gens
  base : Un X.fs X.ex X.H_0 H X.s_0.heap s.heap
  loc : ∃ m, s.heap.Ns X.env.locals m ∧ ∀ (i : Nat) (x : Str) (v : V), X.N[i]? = some x → σ[i]? = some (some v) → Vis X.env.scope x → ∃ u, RelV v u ∧ Look X.env s.heap m x u
  cell : ∀ x c, X.env.cells.lookup x = some c → ∃ v, s.heap.IsCell c v
  free : H X.env.locals = none
  freeC : ∀ x c, X.env.cells.lookup x = some c → H c = none
  pin : ∀ p ∈ X.pn ++ pins, s.heap.get? p.1 = some p.2 ∧ H p.1 = none ∧ p.1 ≠ X.env.locals ∧ p.1 ∉ X.fs ∧ ∀ v, p.2.data ≠ .cell v
  hok : HOk X.prog X.w H s.heap
  len : σ.length = X.N.length
section
variable {X : Cx} {pins : List (Addr × Obj)} {σ : List (Option V)} {H H' : Hp} {s : Shared} {h' : Heap}
theorem Cx.Ok.nofr (ok : X.Ok) {b : Addr} {o : Obj} (e : X.base.get? b = some o) : b ∉ X.fs := fun hb => by
  have := (ok.funs.mem hb).1
  rw [e] at this; cases this
theorem Inv.bs (I : Inv X pins σ H s) : ∀ b o, X.base.get? b = some o → s.heap.get? b = some o ∧ H b = none := fun b o e =>
  ⟨I.base.keep b o (I.ok.bs b o e).1 (I.ok.bs b o e).2 (I.ok.nofr e) (I.ok.noex b o e), I.base.free b o (I.ok.bs b o e).1 (I.ok.bs b o e).2 (I.ok.noex b o e)⟩
theorem Inv.bk (I : Inv X pins σ H s) : ∀ b o, X.base.get? b = some o → s.heap.get? b = some o := fun b o e => (I.bs b o e).1
theorem Inv.mod (I : Inv X pins σ H s) : Mod X.K X.mg X.base := I.ok.mod
theorem Inv.kIn (I : Inv X pins σ H s) : X.K.In s.heap := I.ok.mod.kin.keeps I.bk
theorem Inv.nolimit (I : Inv X pins σ H s) : s.heap.NoLimit := I.ok.mod.nolimit.keeps I.bk
theorem Inv.fr (I : Inv X pins σ H s) : ∃ m, Fr X.base X.env.locals s.heap m :=
  let ⟨m, hn, _⟩ := I.loc
  ⟨m, hn, I.bk, Nat.le_trans I.ok.bsz I.ok.above⟩
theorem Inv.lt (I : Inv X pins σ H s) : X.env.locals < s.heap.objs.size := let ⟨_, hn, _⟩ := I.loc; hn.lt
theorem Inv.sz (I : Inv X pins σ H s) : X.s_0.heap.objs.size ≤ s.heap.objs.size := Nat.le_trans I.ok.above (Nat.le_of_lt I.lt)
theorem Inv.nofs (I : Inv X pins σ H s) {a : Addr} (h : s.heap.objs.size ≤ a) : a ∉ X.fs := fun hb => by
  obtain ⟨_, o, ho, _⟩ := I.ok.funs.mem hb
  exact absurd (Nat.lt_of_lt_of_le (Heap.lt_size ho) (Nat.le_trans I.sz h)) (Nat.lt_irrefl _)
theorem Inv.cne (I : Inv X pins σ H s) : ∀ x c, X.env.cells.lookup x = some c → c ≠ X.env.locals := fun x c e z => by
  obtain ⟨v, o, ho, hd⟩ := I.cell x c e
  obtain ⟨m, ⟨o', es, ep, ho', hd', _⟩, _⟩ := I.loc
  rw [z, ho'] at ho; cases ho; rw [hd'] at hd; cases hd
theorem Inv.funs (I : Inv X pins σ H s) : s.heap.FunFrames X.base X.outer := by
  have all : ∀ (l : List Env), (∀ b ∈ frs l, b ∈ X.fs) → X.s_0.heap.FunFrames X.base l → s.heap.FunFrames X.base l := by
    intro l
    induction l with
    | nil => intro _ _; trivial
    | cons env r ih =>
      intro hs hl
      obtain ⟨hk, ⟨L, o, hf, hn, ho, hd⟩, hr⟩ := hl
      have hL : L ∈ X.fs := hs L (by unfold frs; rw [List.filterMap_cons, hf]; exact List.mem_cons_self)
      obtain ⟨sl, e⟩ := I.base.slot L o ho (I.ok.frf L hL) hL fun z => I.ok.exfs L z hL
      exact ⟨hk, ⟨L, _, hf, hn, e, hd⟩, ih (fun b hb => hs b (by unfold frs; rw [List.filterMap_cons, hf]; exact List.mem_cons_of_mem _ hb)) hr⟩
  exact all X.outer (fun _ hb => hb) I.ok.funs
theorem Inv.stack (I : Inv X pins σ H s) : s.heap.FunFrames X.base X.stack := by
  rcases I.ok.stk with e | ⟨e, hf⟩
  · rw [e]; exact I.funs
  · rw [e]
    obtain ⟨m, hn, _⟩ := I.loc
    refine .cons (by rw [I.ok.kind]; decide) hf hn ?_ I.funs
    exact Heap.get?_none_of_le (Nat.le_trans I.ok.bsz I.ok.above)
theorem Inv.stkSub (I : Inv X pins σ H s) : ∀ b ∈ frs X.stack, b ∈ X.env.locals :: X.fs := fun b hb => by
  rcases I.ok.stk with e | ⟨e, hf⟩
  · rw [e] at hb; exact List.mem_cons_of_mem _ hb
  · rw [e] at hb
    unfold frs at hb
    rw [List.filterMap_cons, hf] at hb
    exact hb
theorem Inv.stkFree (I : Inv X pins σ H s) : ∀ b ∈ frs X.stack, H b = none := fun b hb => by
  rcases List.mem_cons.mp (I.stkSub b hb) with e | hb
  · rw [e]; exact I.free
  · obtain ⟨_, o, ho, _⟩ := I.ok.funs.mem hb
    exact I.base.free b o ho (I.ok.frf b hb) fun z => I.ok.exfs b z hb
theorem Inv.step {g' : Array GenState} {t' : Nat} {d' : Drawn} {ch : List Addr} (I : Inv X pins σ H s)
    (hch : ∀ b ∈ ch, (b ∈ X.ex ∨ X.s_0.heap.objs.size ≤ b) ∧ b ≠ X.env.locals ∧ (∀ x c, X.env.cells.lookup x = some c → c ≠ b) ∧ ∀ p ∈ X.pn ++ pins, p.1 ≠ b)
    (keep : ∀ b o, b ≠ X.env.locals → b ∉ X.fs → b ∉ ch → s.heap.get? b = some o → H b = none → h'.get? b = some o)
    (slot : ∀ b o, b ≠ X.env.locals → b ∈ X.fs → b ∉ ch → s.heap.get? b = some o → H b = none → ∃ sl, h'.get? b = some { o with slots := sl }) (free : ∀ b o, b ∉ ch → s.heap.get? b = some o → H b = none → H' b = none)
    (there : ∀ b o, b ∉ ch → s.heap.get? b = some o → ∃ o', h'.get? b = some o')
    (tups : ∀ b xs, H b = some (.tup xs) → H' b = some (.tup xs)) (frzs : ∀ b o u, H b = some (.frz o u) → H' b = some (.frz o u)) (tbls : ∀ b ps, H b = some (.tbl ps) → ∃ more, H' b = some (.tbl (ps ++ more)))
    (ns : ∀ m, s.heap.Ns X.env.locals m → h'.Ns X.env.locals m) (hok : HOk X.prog X.w H' h') (hg : AllBare g') :
    Inv X pins σ H' { s with heap := h', gens := g', drawn := d', toks := t' } := by
  have neL : ∀ b o, X.s_0.heap.get? b = some o → b ≠ X.env.locals := fun b o e => Nat.ne_of_lt (Nat.lt_of_lt_of_le (Heap.lt_size e) I.ok.above)
  have neC : ∀ b o, X.s_0.heap.get? b = some o → b ∉ X.ex → b ∉ ch := fun b o e hx hb => by
    rcases (hch b hb).1 with z | z
    · exact hx z
    · exact absurd (Nat.lt_of_lt_of_le (Heap.lt_size e) z) (Nat.lt_irrefl _)
  have cellK : ∀ x c, X.env.cells.lookup x = some c → ∀ v, s.heap.IsCell c v → h'.IsCell c v := fun x c e v ⟨o, ho, hd⟩ => by
    have nch : c ∉ ch := fun z => (hch c z).2.2.1 x c e rfl
    by_cases hc : c ∈ X.fs
    · obtain ⟨sl, q⟩ := slot c o (I.cne x c e) hc nch ho (I.freeC x c e)
      exact ⟨_, q, hd⟩
    · exact ⟨o, keep c o (I.cne x c e) hc nch ho (I.freeC x c e), hd⟩
  refine ⟨I.ok, I.os, hg, ⟨fun b o e n hb hx => ?_, fun b o e n hb hx => ?_, fun b o e n hx => ?_, fun b o e hx => ?_, fun b xs e => tups b xs (I.base.tups b xs e), fun b o xs e => frzs b o xs (I.base.frzs b o xs e), fun b ps e => ?_⟩, ?_, fun x c e => ?_, ?_, fun x c e => ?_, fun p hp => ?_, hok, I.len⟩
  · exact keep b o (neL b o e) hb (neC b o e hx) (I.base.keep b o e n hb hx) (I.base.free b o e n hx)
  · obtain ⟨sl, e1⟩ := I.base.slot b o e n hb hx
    obtain ⟨sl', e2⟩ := slot b _ (neL b o e) hb (neC b o e hx) e1 (I.base.free b o e n hx)
    exact ⟨sl', e2⟩
  · obtain ⟨o', e1⟩ := I.base.there b o e hx
    exact free b o' (neC b o e hx) e1 (I.base.free b o e n hx)
  · obtain ⟨o', e1⟩ := I.base.there b o e hx
    exact there b o' (neC b o e hx) e1
  · obtain ⟨m1, e1⟩ := I.base.tbls b ps e
    obtain ⟨m2, e2⟩ := tbls b _ e1
    exact ⟨m1 ++ m2, by rw [e2, Array.append_assoc]⟩
  · obtain ⟨m, hn, hl⟩ := I.loc
    refine ⟨m, ns m hn, fun i x v e1 e2 e3 => ?_⟩
    obtain ⟨u, r, l⟩ := hl i x v e1 e2 e3
    refine ⟨u, r, ?_⟩
    rcases l with l | ⟨k, c, e, z⟩
    · exact .inl l
    · exact .inr ⟨k, c, e, cellK x c e _ z⟩
  · obtain ⟨v, z⟩ := I.cell x c e
    exact ⟨v, cellK x c e v z⟩
  · obtain ⟨m, ⟨o, _, _, ho, _⟩, _⟩ := I.loc
    exact free _ o (fun z => (hch _ z).2.1 rfl) ho I.free
  · obtain ⟨v, o, ho, hd⟩ := I.cell x c e
    exact free c o (fun z => (hch c z).2.2.1 x c e rfl) ho (I.freeC x c e)
  · obtain ⟨e, n, ne, nf, d⟩ := I.pin p hp
    have nch : p.1 ∉ ch := fun z => (hch p.1 z).2.2.2 p hp rfl
    exact ⟨keep p.1 p.2 ne nf nch e n, free p.1 p.2 nch e n, ne, nf, d⟩
theorem Inv.un {t' : Nat} (I : Inv X pins σ H s) (u : Un X.fs [] H H' s.heap h') (hok : HOk X.prog X.w H' h') : Inv X pins σ H' { s with heap := h', toks := t' } := by
  obtain ⟨m, ⟨o, es, ep, ho, r⟩, _⟩ := id I.loc
  obtain ⟨sl, hL⟩ := u.any ho I.free (by simp)
  exact I.step (g' := s.gens) (d' := s.drawn) (ch := []) (fun _ z => nomatch z) (fun b o _ hb _ e n => u.keep b o e n hb (by simp)) (fun b o _ hb _ e n => u.slot b o e n hb (by simp)) (fun b o _ e n => u.free b o e n (by simp)) (fun b o _ e => u.there b o e (by simp)) u.tups u.frzs u.tbls (fun m' hm => by
    obtain ⟨o', es', ep', ho', r'⟩ := hm
    rw [ho] at ho'; cases ho'
    exact ⟨_, es', ep', hL, r'⟩) hok I.bare
theorem Inv.call {g' : Array GenState} {t' : Nat} {d' : Drawn} {ch : List Addr} (I : Inv X pins σ H s) (u : Un (frs X.stack) ch H H' s.heap h') (hok : HOk X.prog X.w H' h') (hg : AllBare g')
    (hch : ∀ b ∈ ch, (b ∈ X.ex ∨ X.s_0.heap.objs.size ≤ b) ∧ b ≠ X.env.locals ∧ (∀ x c, X.env.cells.lookup x = some c → c ≠ b) ∧ ∀ p ∈ X.pn ++ pins, p.1 ≠ b) :
    Inv X pins σ H' { s with heap := h', gens := g', drawn := d', toks := t' } := by
  obtain ⟨m, ⟨o, es, ep, ho, r⟩, _⟩ := id I.loc
  obtain ⟨sl, hL⟩ := u.any ho I.free fun z => (hch _ z).2.1 rfl
  exact I.step (ch := ch) hch (fun b o hL hb hc e n => u.keep b o e n (fun z => (List.mem_cons.mp (I.stkSub b z)).elim hL hb) hc) (fun b o _ _ hc e n => u.any e n hc) (fun b o hc e n => u.free b o e n hc) (fun b o hc e => u.there b o e hc) u.tups u.frzs u.tbls (fun m' hm => by
    obtain ⟨o', es', ep', ho', r'⟩ := hm
    rw [ho] at ho'; cases ho'
    exact ⟨_, es', ep', hL, r'⟩) hok hg
theorem Inv.turned {t' : Nat} {it : Addr} (I : Inv X pins σ H s) (k : ∀ b o, b ≠ it → s.heap.get? b = some o → h'.get? b = some o) (hn : H it = none) (hL : it ≠ X.env.locals)
    (h1 : it ∈ X.ex ∨ X.s_0.heap.objs.size ≤ it) (h2 : ∀ x c, X.env.cells.lookup x = some c → c ≠ it) (h3 : ∀ p ∈ X.pn ++ pins, p.1 ≠ it) : Inv X pins σ H { s with heap := h', toks := t' } := by
  have nit : ∀ b u, H b = some u → b ≠ it := fun b u e z => by rw [z, hn] at e; cases e
  refine I.step (g' := s.gens) (d' := s.drawn) (ch := [it]) (fun b hb => ?_) (fun b o _ _ hc e _ => k b o (fun z => hc (by simp [z])) e) (fun b o _ _ hc e _ => ⟨o.slots, k b o (fun z => hc (by simp [z])) e⟩) (fun _ _ _ _ n => n)
    (fun b o hc e => ⟨o, k b o (fun z => hc (by simp [z])) e⟩) (fun _ _ e => e) (fun _ _ _ e => e) (fun b ps e => ⟨#[], by rw [e]; simp⟩) (fun m hm => ?_) (fun b u e => ?_) I.bare
  · have e : b = it := by simpa using hb
    subst e
    exact ⟨h1, hL, h2, h3⟩
  · obtain ⟨o, es, ep, ho, r⟩ := hm
    exact ⟨o, es, ep, k _ o (Ne.symm hL) ho, r⟩
  · refine (I.hok b u e).stay (fun c v hc q => k c v ?_ q) (fun _ q => q) fun _ _ q => q
    rcases hc with z | z
    · rw [z]; exact nit b u e
    · exact nit c _ z
theorem Inv.tok (I : Inv X pins σ H s) (t : Nat) : Inv X pins σ H { s with toks := t } := I.un (h' := s.heap) (t' := t) Un.refl I.hok
theorem Inv.kept {t' : Nat} (I : Inv X pins σ H s) (k : ∀ b u, s.heap.get? b = some u → h'.get? b = some u) : Inv X pins σ H { s with heap := h', toks := t' } := I.un (Un.kept k) (I.hok.kept k)
theorem Inv.laid {a : Addr} {o : HO} {t' : Nat} (I : Inv X pins σ H s) (k : ∀ b u, s.heap.get? b = some u → h'.get? b = some u) (hp : s.heap.objs.size ≤ a) (new : ObjOk X.prog X.w (upd H a o) h' a o) :
    Inv X pins σ (upd H a o) { s with heap := h', toks := t' } := I.un (Un.laid k hp (I.hok.fresh hp)) (I.hok.laid k hp new)
theorem Inv.write {x e : Addr} {o : HO} {t' : Nat} (I : Inv X pins σ H s) (mu : Mut (H x)) (he : e = x ∨ H e = some (.own x)) (k : ∀ b u, b ≠ e → s.heap.get? b = some u → h'.get? b = some u) (heo : ∃ u, h'.get? e = some u)
    (new : ObjOk X.prog X.w (upd H x o) h' x o) : Inv X pins σ (upd H x o) { s with heap := h', toks := t' } := I.un (Un.write mu he k heo) (I.hok.write mu he k heo new)
theorem Inv.weak {σ' : List (Option V)} (I : Inv X pins σ H s) (hl : σ'.length = σ.length) (w : ∀ (i : Nat) v, σ'[i]? = some (some v) → σ[i]? = some (some v)) : Inv X pins σ' H s :=
  ⟨I.ok, I.os, I.bare, I.base, let ⟨m, hn, hl'⟩ := I.loc; ⟨m, hn, fun i x v e1 e2 e3 => hl' i x v e1 (w i v e2) e3⟩, I.cell, I.free, I.freeC, I.pin, I.hok, hl.trans I.len⟩
theorem Inv.pins_of {pins' : List (Addr × Obj)} (I : Inv X pins σ H s) (h : ∀ p ∈ pins', s.heap.get? p.1 = some p.2 ∧ H p.1 = none ∧ p.1 ≠ X.env.locals ∧ p.1 ∉ X.fs ∧ ∀ v, p.2.data ≠ .cell v) : Inv X pins' σ H s :=
  ⟨I.ok, I.os, I.bare, I.base, I.loc, I.cell, I.free, I.freeC, fun p hp => (List.mem_append.mp hp).elim (fun z => I.pin p (List.mem_append_left _ z)) (h p), I.hok, I.len⟩
theorem nodup_ix {N : List Str} (hN : N.Nodup) {i j : Nat} {x : Str} (a : N[i]? = some x) (b : N[j]? = some x) : i = j := by
  obtain ⟨h1, e1⟩ := List.getElem?_eq_some_iff.mp a
  obtain ⟨h2, e2⟩ := List.getElem?_eq_some_iff.mp b
  exact (List.getElem_inj hN).mp (e1.trans e2.symm)
theorem store_ok2 {M : Model} {A : Around} {E : Value → Shared → Prop} {i : Nat} {x : Str} {v : V} {u : Value} {Q : Unit → Shared → Prop} (I : Inv X pins σ H s) (hN : X.N.Nodup) (hi : X.N[i]? = some x) (hx : Loc X.env.scope x) (r : RelV v u)
    (h : ∀ s', Inv X pins (σ.set i (some v)) H s' → (∃ a, Heap.SameBut a s.heap s'.heap ∧ (a = X.env.locals ∨ X.env.cells.lookup x = some a)) → Q () s') (hf : X.fn x = true ∨ X.env.scope.names.lookup x = some .local := by first | exact .inl rfl | exact .inr rfl | assumption) : wpAny M A (storeName X.env x u) Q E s := by
  obtain ⟨m, hn, hl⟩ := id I.loc
  have hcls : (X.env.scope.kind == .class || (X.env.scope.kind == .module && X.env.locals != X.env.globals)) = false := by rw [I.ok.kind]; rfl
  have hiσ : i < σ.length := by rw [I.len]; exact (List.getElem?_eq_some_iff.mp hi).1
  have cne := I.cne
  have tracked : ∀ {a : Addr} {h' : Heap}, (∃ o, s.heap.get? a = some o ∧ H a = none) → Heap.SameBut a s.heap h' → HOk X.prog X.w H h' := fun {a h'} ha hs b ob e => by
    obtain ⟨_, _, hfree⟩ := ha
    refine (I.hok b ob e).stay (fun c w' hc q => (hs.2 c ?_).trans q) (fun _ q => q) fun _ _ q => q
    rintro rfl
    rcases hc with rfl | hc
    · rw [hfree] at e; cases e
    · rw [hfree] at hc; cases hc
  rcases hx with hk | hk
  · refine wpAny_storeName_local hk hn (fun h' hn' hs => ?_) hcls
    obtain ⟨oL, _, _, hoL, _⟩ := id hn
    refine h _ ⟨I.ok, I.os, I.bare, ⟨fun b o e n hb hx => ?_, fun b o e n hb hx => ?_, I.base.free, fun b o e hx => ?_, I.base.tups, I.base.frzs, I.base.tbls⟩, ⟨_, hn', fun j y v' e1 e2 e3 => ?_⟩, fun y c e => ?_, I.free, I.freeC, fun p hp => ?_, tracked ⟨oL, hoL, I.free⟩ hs, by simpa using I.len⟩ ⟨_, hs, .inl rfl⟩
    · exact (hs.2 b (Nat.ne_of_lt (Nat.lt_of_lt_of_le (Heap.lt_size e) I.ok.above))).trans (I.base.keep b o e n hb hx)
    · obtain ⟨sl, e1⟩ := I.base.slot b o e n hb hx
      exact ⟨sl, (hs.2 b (Nat.ne_of_lt (Nat.lt_of_lt_of_le (Heap.lt_size e) I.ok.above))).trans e1⟩
    · obtain ⟨o', e1⟩ := I.base.there b o e hx
      exact ⟨o', (hs.2 b (Nat.ne_of_lt (Nat.lt_of_lt_of_le (Heap.lt_size e) I.ok.above))).trans e1⟩
    · by_cases hj : j = i
      · subst hj
        rw [hi] at e1; cases e1
        rw [List.getElem?_set_self hiσ] at e2
        cases e2
        exact ⟨u, r, .inl ⟨hk, by simp⟩⟩
      · rw [List.getElem?_set_ne (Ne.symm hj)] at e2
        obtain ⟨u', r', q⟩ := hl j y v' e1 e2 e3
        refine ⟨u', r', ?_⟩
        rcases q with ⟨k, e⟩ | ⟨k, c, e, z⟩
        · refine .inl ⟨k, ?_⟩
          have : y ≠ x := fun e => hj (nodup_ix hN e1 (e ▸ hi))
          simp [this, e]
        · exact .inr ⟨k, c, e, z.sameBut hs (cne y c e)⟩
    · obtain ⟨w', z⟩ := I.cell y c e
      exact ⟨w', z.sameBut hs (cne y c e)⟩
    · obtain ⟨e, n, ne, nf, d⟩ := I.pin p hp
      exact ⟨(hs.2 p.1 ne).trans e, n, ne, nf, d⟩
  · have hfn : X.fn x = true := by
      rcases hf with z | z
      · exact z
      · rw [z] at hk; cases hk
    obtain ⟨c, hc⟩ := I.ok.has x (.inl hk)
    obtain ⟨w', z⟩ := I.cell x c hc
    refine wpAny_storeName_cell I.ok.kind hk hc z (fun h' hc' hs => ?_)
    obtain ⟨oc, hoc, hocd⟩ := id z
    refine h { s with heap := h' } ⟨I.ok, I.os, I.bare, ⟨fun b o e n hb hx => ?_, fun b o e n hb hx => ?_, I.base.free, fun b o e hx => ?_, I.base.tups, I.base.frzs, I.base.tbls⟩, ⟨m, hn.sameBut hs (Ne.symm (cne x c hc)), fun j y v' e1 e2 e3 => ?_⟩, fun y c' e => ?_, I.free, I.freeC, fun p hp => ?_, tracked ⟨oc, hoc, I.freeC x c hc⟩ hs, by simpa using I.len⟩ ⟨c, hs, .inr hc⟩
    · exact (hs.2 b (Nat.ne_of_lt (Nat.lt_of_lt_of_le (Heap.lt_size e) (I.ok.cab x c hfn hc)))).trans (I.base.keep b o e n hb hx)
    · obtain ⟨sl, e1⟩ := I.base.slot b o e n hb hx
      exact ⟨sl, (hs.2 b (Nat.ne_of_lt (Nat.lt_of_lt_of_le (Heap.lt_size e) (I.ok.cab x c hfn hc)))).trans e1⟩
    · obtain ⟨o', e1⟩ := I.base.there b o e hx
      exact ⟨o', (hs.2 b (Nat.ne_of_lt (Nat.lt_of_lt_of_le (Heap.lt_size e) (I.ok.cab x c hfn hc)))).trans e1⟩
    · by_cases hj : j = i
      · subst hj
        rw [hi] at e1; cases e1
        rw [List.getElem?_set_self hiσ] at e2
        cases e2
        exact ⟨u, r, .inr ⟨.inl hk, c, hc, hc'⟩⟩
      · rw [List.getElem?_set_ne (Ne.symm hj)] at e2
        obtain ⟨u', r', q⟩ := hl j y v' e1 e2 e3
        refine ⟨u', r', ?_⟩
        rcases q with q | ⟨k, c', e, z'⟩
        · exact .inl q
        · refine .inr ⟨k, c', e, z'.sameBut hs ?_⟩
          rintro rfl
          exact hj (nodup_ix hN e1 (I.ok.inj _ _ _ e hc ▸ hi))
    · by_cases hcc : c' = c
      · subst hcc; exact ⟨_, hc'⟩
      · obtain ⟨w2, z2⟩ := I.cell y c' e
        exact ⟨w2, z2.sameBut hs hcc⟩
    · obtain ⟨e, n, ne, nf, d⟩ := I.pin p hp
      refine ⟨(hs.2 p.1 ?_).trans e, n, ne, nf, d⟩
      intro q
      rw [q, hoc] at e
      have q' : oc = p.2 := Option.some.inj e
      exact d w' (by rw [← q']; exact hocd)
theorem store_ok {M : Model} {A : Around} {E : Value → Shared → Prop} {i : Nat} {x : Str} {v : V} {u : Value} {Q : Unit → Shared → Prop} (I : Inv X pins σ H s) (hN : X.N.Nodup) (hi : X.N[i]? = some x) (hx : Loc X.env.scope x) (r : RelV v u)
    (h : ∀ s', Inv X pins (σ.set i (some v)) H s' → Q () s') (hf : X.fn x = true ∨ X.env.scope.names.lookup x = some .local := by first | exact .inl rfl | exact .inr rfl | assumption) : wpAny M A (storeName X.env x u) Q E s :=
  store_ok2 I hN hi hx r (fun s' I' _ => h s' I') hf
theorem Inv.call' {s' : Shared} {ch : List Addr} (I : Inv X pins σ H s) (ho : s'.os = s.os) (u : Un (frs X.stack) ch H H' s.heap s'.heap) (hok : HOk X.prog X.w H' s'.heap) (hg : AllBare s'.gens)
    (hch : ∀ b ∈ ch, (b ∈ X.ex ∨ X.s_0.heap.objs.size ≤ b) ∧ b ≠ X.env.locals ∧ (∀ x c, X.env.cells.lookup x = some c → c ≠ b) ∧ ∀ p ∈ X.pn ++ pins, p.1 ≠ b) : Inv X pins σ H' s' := by
  obtain ⟨h', g', d', t', o'⟩ := s'
  have e : o' = s.os := ho
  subst e
  exact I.call (g' := g') (t' := t') (d' := d') u hok hg hch
end
abbrev XK := Value → Option Addr → Hp → Prop
abbrev St := List (Option V)
abbrev VK := V → Hp → Prop
abbrev TE := St → Hp → VK → Prop
abbrev TT := St → Hp → (Bool → Hp → Prop) → Prop
abbrev TA := St → Hp → (List V → Hp → Prop) → Prop
structure Ends where
  nx : St → Hp → Prop
  rt : VK
  bk : St → Hp → Prop := fun _ _ => False
  ct : St → Hp → Prop := fun _ _ => False
abbrev TS := Ends → St → Hp → Prop
def EP (X : Cx) (pins : List (Addr × Obj)) (σ : St) (Q : VK) (u : Value) (s' : Shared) : Prop := ∃ v H', Inv X pins σ H' s' ∧ RelV v u ∧ Q v H'
def TP (X : Cx) (pins : List (Addr × Obj)) (σ : St) (Q : Bool → Hp → Prop) (b : Bool) (s' : Shared) : Prop := ∃ H', Inv X pins σ H' s' ∧ Q b H'
def AP (X : Cx) (pins : List (Addr × Obj)) (σ : St) (Q : List V → Hp → Prop) (us : List Value) (s' : Shared) : Prop := ∃ vs H', Inv X pins σ H' s' ∧ Vals vs us ∧ Q vs H'
def SP (X : Cx) (pins : List (Addr × Obj)) (D : Ends) (f : Flow) (s' : Shared) : Prop :=
  match f with
  | .next => ∃ σ' H', Inv X pins σ' H' s' ∧ D.nx σ' H'
  | .brk => ∃ σ' H', Inv X pins σ' H' s' ∧ D.bk σ' H'
  | .cont => ∃ σ' H', Inv X pins σ' H' s' ∧ D.ct σ' H'
  | .ret u => ∃ v σ' H', Inv X pins σ' H' s' ∧ RelV v u ∧ D.rt v H'
def PE (X : Cx) (e : Expr) (t : TE) : Prop :=
  ∀ (pins : List (Addr × Obj)) (s : Shared) (σ : St) (H : Hp) (Q : VK), Inv X pins σ H s → t σ H Q → wpAny (model X.prog X.w) X.A (eval e X.env) (EP X pins σ Q) X.xe s
def PT (X : Cx) (e : Expr) (t : TT) : Prop :=
  ∀ (pins : List (Addr × Obj)) (s : Shared) (σ : St) (H : Hp) (Q : Bool → Hp → Prop), Inv X pins σ H s → t σ H Q → wpAny (model X.prog X.w) X.A (isTrue e X.env (eval e X.env)) (TP X pins σ Q) X.xe s
def PW (X : Cx) (e : Expr) (t : TT) : Prop :=
  ∀ (whole : Sem Value) (pins : List (Addr × Obj)) (s : Shared) (σ : St) (H : Hp) (Q : Bool → Hp → Prop), Inv X pins σ H s → t σ H Q → wpAny (model X.prog X.w) X.A (isTrue e X.env whole) (TP X pins σ Q) X.xe s
theorem PW.pt {X : Cx} {e : Expr} {t : TT} (h : PW X e t) : PT X e t := h _
def PA (X : Cx) (es : List Expr) (t : TA) : Prop :=
  ∀ (pos : Pos) (pins : List (Addr × Obj)) (s : Shared) (σ : St) (H : Hp) (Q : List V → Hp → Prop), Inv X pins σ H s → t σ H Q → wpAny (model X.prog X.w) X.A (spliced (backTo pos (starEach es X.env))) (AP X pins σ Q) X.xe s
def PS (X : Cx) (st : Stmt) (t : TS) : Prop :=
  ∀ (pins : List (Addr × Obj)) (s : Shared) (σ : St) (H : Hp) (D : Ends), Inv X pins σ H s → t D σ H → wpAny (model X.prog X.w) X.A (exec st X.env) (SP X pins D) X.xe s
def PSs (X : Cx) (st : List Stmt) (t : TS) : Prop :=
  ∀ (pins : List (Addr × Obj)) (s : Shared) (σ : St) (H : Hp) (D : Ends), Inv X pins σ H s → t D σ H → wpAny (model X.prog X.w) X.A (execs st X.env) (SP X pins D) X.xe s
theorem thn {α : Type} {t : Sem α} {Q Q' : α → Shared → Prop} {M : Model} {A : Around} {E : Value → Shared → Prop} {s : Shared} (h : wpAny M A t Q E s) (hQ : ∀ a s, Q a s → Q' a s) : wpAny M A t Q' E s := wpAny_mono h hQ fun _ _ x => x
end L2
namespace L2
open PySem PySem.Spec PyProof.Rows
section
variable {X : Cx}
def tVar (i : Nat) : TE := fun σ H Q => ∃ v, σ[i]? = some (some v) ∧ Q v H
def tC (v : V) : TE := fun _ H Q => Q v H
theorem pe_var {i : Nat} {x : Str} {pos : Pos} (hN : X.N[i]? = some x) (hv : Vis X.env.scope x) (hd : (x == ("__debug__" : Str)) = false := by decide) (hcd : (x == ("__classdict__" : Str)) = false := by decide) : PE X (.Name x pos) (tVar i) := by
  intro pins s σ H Q I h
  obtain ⟨v, e, h⟩ := h
  obtain ⟨m, hn, hl⟩ := I.loc
  obtain ⟨u, r, l⟩ := hl i x v hN e hv
  have fin : EP X pins σ Q u s := ⟨v, H, I, r, h⟩
  rcases l with ⟨hk, hm⟩ | ⟨hk, c, hc, hcell⟩
  · exact wpAny_Name (wpAny_loadName_local I.ok.kind hk hn hm fin) hd
  · rcases hk with hk | hk
    · exact wpAny_Name (wpAny_loadName_cell I.ok.kind hk hc hcell fin) hd
    · exact wpAny_Name (wpAny_loadName_free I.ok.kind hk hc hcell fin hcd) hd
theorem pe_int {i j pos} : PE X (.Constant (.int i) j pos) (tC (.int i)) := fun _ _ _ H _ I h => wpAny_Constant_int ⟨.int i, H, I.tok _, ⟨_, rfl⟩, h⟩
theorem pe_bl {b j pos} : PE X (.Constant (.bool b) j pos) (tC (.bl b)) := fun _ _ _ H _ I h => Constant_bool ⟨.bl b, H, I, rfl, h⟩
theorem pe_non {j pos} : PE X (.Constant .none j pos) (tC .non) := fun _ _ _ H _ I h => Constant_none ⟨.non, H, I, rfl, h⟩
def Gl (X : Cx) (x : Str) : Prop := X.env.kindOf x = some .globalImplicit
theorem ld_glob {E : Value → Shared → Prop} {pins : List (Addr × Obj)} {s : Shared} {σ : St} {H : Hp} {x : Str} {u : Value} {pos : Pos} {Q : Value → Shared → Prop} (I : Inv X pins σ H s) (hg : Gl X x) (hm : X.mg x = some u) (h : Q u s)
    (hd : (x == ("__debug__" : Str)) = false := by decide) : wpAny (model X.prog X.w) X.A (eval (.Name x pos) X.env) Q E s :=
  Calls.Name_function_global I.ok.kind hg (Calls.loadGlobal_global (by rw [I.ok.glob]; exact I.mod.glob.keeps I.bk) hm h) hd
theorem ld_blt {E : Value → Shared → Prop} {pins : List (Addr × Obj)} {s : Shared} {σ : St} {H : Hp} {x : Str} {u : Value} {pos : Pos} {Q : Value → Shared → Prop} (I : Inv X pins σ H s) (hg : Gl X x) (hm : X.mg x = none) (hv : bootBuiltins x = some u) (h : Q u s)
    (hn : x ≠ "__name__" := by decide) (hd : (x == ("__debug__" : Str)) = false := by decide) : wpAny (model X.prog X.w) X.A (eval (.Name x pos) X.env) Q E s := by
  obtain ⟨mb, h1, h2⟩ := I.mod.blt
  exact Calls.Name_function_global I.ok.kind hg (Calls.loadGlobal_builtin (by rw [I.ok.glob]; exact I.mod.glob.keeps I.bk) hm (by rw [I.ok.blt]; exact h1.keeps I.bk) ((h2 x hn).trans hv) h) hd
theorem pe_glob {x : Str} {v : V} {u : Value} {pos : Pos} (hg : Gl X x) (hm : X.mg x = some u) (r : RelV v u) (hd : (x == ("__debug__" : Str)) = false := by decide) : PE X (.Name x pos) (tC v) :=
  fun _ _ _ H _ I h => ld_glob I hg hm ⟨v, H, I, r, h⟩ hd
variable {a b : Expr} {ta tb : TE} {pos : Pos}
def PC (X : Cx) (op : CmpOp) (a b : Expr) (t : TE) : Prop :=
  ∀ (pins : List (Addr × Obj)) (s : Shared) (σ : St) (H : Hp) (Q : VK), Inv X pins σ H s → t σ H Q →
    wpAny (model X.prog X.w) X.A (eval a X.env) (fun v s₁ => wpAny (model X.prog X.w) X.A (eval b X.env) (fun u s₂ => wpAny (model X.prog X.w) X.A (compareOp op v u) (EP X pins σ Q) X.xe s₂) X.xe s₁) X.xe s
theorem nobehind (b : Expr) {op : CmpOp} (h : op ≠ .In) (h2 : op ≠ .NotIn) : behindInMarks op b = false := by
  have e1 : (op == CmpOp.In) = false := by cases op <;> first | rfl | exact absurd rfl h
  have e2 : (op == CmpOp.NotIn) = false := by cases op <;> first | rfl | exact absurd rfl h2
  cases b <;> simp [behindInMarks, e1, e2]
def tIsN (ta : TE) : TE := fun σ H Q => ta σ H fun x H1 => Q (.bl (decide (x = .non))) H1
theorem RelV.none_iff {x : V} {v : Value} (r : RelV x v) : (v == Value.none) = decide (x = .non) := by
  cases x with
  | non => cases r; rfl
  | bl _ => cases r; rfl
  | int _ => obtain ⟨t, rfl⟩ := r; rfl
  | str _ => obtain ⟨t, rfl⟩ := r; rfl
  | byt _ => obtain ⟨t, rfl⟩ := r; rfl
  | flt _ => obtain ⟨t, rfl⟩ := r; rfl
  | ref _ => cases r; rfl
  | ty _ => cases r; rfl
theorem pc_isN {j pos'} (ha : PE X a ta) : PC X .Is a (.Constant .none j pos') (tIsN ta) := by
  intro pins s σ H Q I h
  refine thn (ha pins s σ H _ I h) fun v s1 ⟨x, H1, I1, r1, q1⟩ => ?_
  exact Constant_none (is_none_gen ⟨.bl _, H1, I1, by rw [r1.none_iff]; rfl, q1⟩)
def tB (t : TE) : TT := fun σ H Q => t σ H fun x H1 => ∃ c, x = .bl c ∧ Q c H1
theorem pt_cmp {op : CmpOp} {t : TE} (h : PC X op a b t) (h1 : behindInMarks op b = false := by first | exact nobehind _ (by decide) (by decide) | rfl) : PT X (.Compare a [op] [b] pos) (tB t) := by
  intro pins s σ H Q I hw
  refine wpAny_isTrue_Compare1 (thn (h pins s σ H _ I hw) fun v s1 h1 => thn h1 fun u s2 h2 => thn h2 fun c s3 ⟨x, H1, I1, r1, q1⟩ => ?_) h1
  obtain ⟨d, rfl, q⟩ := q1
  cases r1
  exact wpAny_truthy_bool ⟨H1, I1, q⟩
theorem pt_val {e : Expr} {t : TE} (h : PE X e t) (he : ∀ whole, isTrue e X.env whole = (do let v ← whole; standAt e.pos; holding [v] (truthy v)) := by intro _; rfl) : PT X e (tB t) := by
  intro pins s σ H Q I hw
  refine isTrue_plain (thn (h pins s σ H _ I hw) fun v s1 ⟨x, H1, I1, r1, q1⟩ => ?_) (he _)
  obtain ⟨d, rfl, q⟩ := q1
  cases r1
  exact wpAny_truthy_bool ⟨H1, I1, q⟩
variable {tA tB' : TT} {rest : List Expr}
def tAnd (t u : TT) : TT := fun σ H Q => t σ H fun c H1 => if c = true then u σ H1 Q else Q false H1
def tOr (t u : TT) : TT := fun σ H Q => t σ H fun c H1 => if c = true then Q true H1 else u σ H1 Q
def tNot (t : TT) : TT := fun σ H Q => t σ H fun c H1 => Q (!c) H1
theorem pw_and1 (ha : PT X a tA) : PW X (.BoolOp .And [a] pos) tA := by
  intro wh pins s σ H Q I h
  refine isTrue_and (thn (ha pins s σ H Q I h) fun c s1 e => ?_)
  cases c with
  | true => exact isTrue_and_nil e
  | false => exact e
theorem pw_or1 (ha : PT X a tA) : PW X (.BoolOp .Or [a] pos) tA := by
  intro wh pins s σ H Q I h
  refine isTrue_or (thn (ha pins s σ H Q I h) fun c s1 e => ?_)
  cases c with
  | false => exact isTrue_or_nil e
  | true => exact e
theorem pw_and (ha : PT X a tA) (hb : PW X (.BoolOp .And (b :: rest) pos) tB') : PW X (.BoolOp .And (a :: b :: rest) pos) (tAnd tA tB') := by
  intro wh pins s σ H Q I h
  refine isTrue_and (thn (ha pins s σ H _ I h) fun c s1 ⟨H1, I1, q1⟩ => ?_)
  cases c with
  | true => exact hb wh pins s1 σ H1 Q I1 q1
  | false => exact ⟨H1, I1, q1⟩
theorem pw_or (ha : PT X a tA) (hb : PW X (.BoolOp .Or (b :: rest) pos) tB') : PW X (.BoolOp .Or (a :: b :: rest) pos) (tOr tA tB') := by
  intro wh pins s σ H Q I h
  refine isTrue_or (thn (ha pins s σ H _ I h) fun c s1 ⟨H1, I1, q1⟩ => ?_)
  cases c with
  | true => exact ⟨H1, I1, q1⟩
  | false => exact hb wh pins s1 σ H1 Q I1 q1
theorem pt_not (ha : PT X a tA) : PT X (.UnaryOp .Not a pos) (tNot tA) := by
  intro pins s σ H Q I h
  exact isTrue_not (ha pins s σ H (fun c H1 => Q (!c) H1) I h)
def tAndV (ta tb : TE) : TE := fun σ H Q => ta σ H fun x H1 => ∃ c, x = .bl c ∧ if c = true then tb σ H1 Q else Q (.bl false) H1
def tOrV (ta tb : TE) : TE := fun σ H Q => ta σ H fun x H1 => ∃ c, x = .bl c ∧ if c = true then Q (.bl true) H1 else tb σ H1 Q
theorem pe_one {op} {t : TE} (h : PE X a t) : PE X (.BoolOp op [a] pos) t := fun pins s σ H Q I hw => BoolOp_one (h pins s σ H Q I hw)
theorem pe_and (ha : PE X a ta) (hb : PE X (.BoolOp .And (b :: rest) pos) tb) : PE X (.BoolOp .And (a :: b :: rest) pos) (tAndV ta tb) := by
  intro pins s σ H Q I h
  refine BoolOp_and (thn (ha pins s σ H _ I h) fun v s1 ⟨x, H1, I1, r1, q1⟩ => ?_)
  obtain ⟨c, rfl, q1⟩ := q1
  cases r1
  refine wpAny_truthy_bool ?_
  cases c with
  | true => exact hb pins s1 σ H1 Q I1 q1
  | false => exact ⟨.bl false, H1, I1, rfl, q1⟩
theorem pe_or (ha : PE X a ta) (hb : PE X (.BoolOp .Or (b :: rest) pos) tb) : PE X (.BoolOp .Or (a :: b :: rest) pos) (tOrV ta tb) := by
  intro pins s σ H Q I h
  refine BoolOp_or (thn (ha pins s σ H _ I h) fun v s1 ⟨x, H1, I1, r1, q1⟩ => ?_)
  obtain ⟨c, rfl, q1⟩ := q1
  cases r1
  refine wpAny_truthy_bool ?_
  cases c with
  | false => exact hb pins s1 σ H1 Q I1 q1
  | true => exact ⟨.bl true, H1, I1, rfl, q1⟩
def tIf (t : TT) (ta tb : TE) : TE := fun σ H Q => t σ H fun c H1 => if c = true then ta σ H1 Q else tb σ H1 Q
theorem pe_ifExp {c : Expr} (hc : PT X c tA) (ha : PE X a ta) (hb : PE X b tb) : PE X (.IfExp c a b pos) (tIf tA ta tb) := by
  intro pins s σ H Q I h
  refine wpAny_IfExp (thn (hc pins s σ H _ I h) fun d s1 ⟨H1, I1, q1⟩ => ?_)
  cases d with
  | true => exact ha pins s1 σ H1 Q I1 q1
  | false => exact hb pins s1 σ H1 Q I1 q1
end
end L2
namespace L2
open PySem PySem.Spec PyProof.Rows
def SqL (K : PySem.W.Frag) (H : Hp) (a : Addr) (xs : List V) : Prop :=
  Rd H a (.lst xs) ∨
    ∃ (o : Obj) (its : Array Value) (n : Nat), K.lookup a = some o ∧ o.cls = .type "list" ∧ o.dict = none ∧ o.data = .seq its n ∧ its.size ≤ sizeLine ∧ Vals xs its.toList
def SqT (K : PySem.W.Frag) (H : Hp) (a : Addr) (xs : List V) : Prop :=
  Rd H a (.tup xs) ∨
    ∃ (o : Obj) (its : Array Value) (n : Nat), K.lookup a = some o ∧ o.cls = .type "tuple" ∧ o.data = .seq its n ∧ its.size ≤ sizeLine ∧ Vals xs its.toList
def absV : Value → Option V
  | .none => some .non
  | .bool b => some (.bl b)
  | .int i _ => some (.int i)
  | .str x _ => some (.str x)
  | .bytes b _ => some (.byt b)
  | .float b _ => some (.flt b)
  | .ref a => some (.ref a)
  | .type n => some (.ty n)
  | _ => none
theorem RelV.abs {x : V} {u : Value} (r : RelV x u) : absV u = some x := by
  cases x with
  | non => cases r; rfl
  | bl _ => cases r; rfl
  | int _ => obtain ⟨t, rfl⟩ := r; rfl
  | str _ => obtain ⟨t, rfl⟩ := r; rfl
  | byt _ => obtain ⟨t, rfl⟩ := r; rfl
  | flt _ => obtain ⟨t, rfl⟩ := r; rfl
  | ref _ => cases r; rfl
  | ty _ => cases r; rfl
theorem RelV.inj {x y : V} {u : Value} (r : RelV x u) (q : RelV y u) : x = y := Option.some.inj (r.abs.symm.trans q.abs)
theorem Vals.inj : ∀ {xs ys : List V} {us : List Value}, Vals xs us → Vals ys us → xs = ys
  | _, _, _, .nil, .nil => rfl
  | _, _, _, .cons r t, .cons r' t' => by rw [r.inj r', Vals.inj t t']
section
variable {X : Cx} {pins : List (Addr × Obj)} {σ : St} {H : Hp} {s : Shared} {a : Addr} {xs ys : List V}
theorem SqL.of {K : PySem.W.Frag} (h : H a = some (.lst xs)) : SqL K H a xs := .inl (.inl h)
theorem SqT.of {K : PySem.W.Frag} (h : H a = some (.tup xs)) : SqT K H a xs := .inl (.inl h)
theorem Inv.list (I : Inv X pins σ H s) (h : SqL X.K H a xs) : ∃ its : List Value, Vals xs its ∧ PlainL s.heap a its.toArray ∧ xs.length ≤ sizeLine := by
  rcases h with h | ⟨o, its, n, hk, hc, hd, hs, hz, r⟩
  · obtain ⟨z, its, n, r, e⟩ := h.ok I.hok
    exact ⟨its, r, ⟨_, n, e, rfl, rfl, rfl⟩, z⟩
  · refine ⟨its.toList, r, ⟨o, n, I.kIn a o hk, hc, hd, by simpa using hs⟩, ?_⟩
    have e := r.length
    simp only [Array.length_toList] at e
    omega
theorem Inv.tuple (I : Inv X pins σ H s) (h : SqT X.K H a xs) : ∃ its : List Value, Vals xs its ∧ IsTup s.heap a its.toArray ∧ xs.length ≤ sizeLine := by
  rcases h with h | ⟨o, its, n, hk, hc, hs, hz, r⟩
  · obtain ⟨z, its, r, p⟩ := h.ok I.hok
    exact ⟨its, r, p, z⟩
  · refine ⟨its.toList, r, ⟨o, I.kIn a o hk, hc, n, by simpa using hs⟩, ?_⟩
    have e := r.length
    simp only [Array.length_toList] at e
    omega
theorem Inv.list_inj (I : Inv X pins σ H s) (h : SqL X.K H a xs) (h' : SqL X.K H a ys) : xs = ys := by
  obtain ⟨its, r, ⟨o, n, e, _, _, d⟩, _⟩ := I.list h
  obtain ⟨its', r', ⟨o', n', e', _, _, d'⟩, _⟩ := I.list h'
  rw [e] at e'; cases e'
  rw [d] at d'
  injection d' with d1 _
  have : its = its' := by simpa using congrArg Array.toList d1
  subst this
  exact r.inj r'
end
abbrev Cx.wish (X : Cx) (E : Value → Shared → Prop) : Cx := { X with xe := E }
abbrev Cx.nox (X : Cx) : Cx := X.wish fun _ _ => False
theorem Cx.Ok.wish {X : Cx} (ok : X.Ok) (E : Value → Shared → Prop) : (X.wish E).Ok :=
  ⟨ok.mod, ok.kind, ok.glob, ok.blt, ok.above, ok.inj, ok.has, ok.cab, ok.hd, ok.frames, ok.stk, ok.exf, ok.bs, ok.bsz, ok.noex, ok.exfs, ok.funs, ok.frf⟩
theorem Cx.Ok.unwish {X : Cx} {E : Value → Shared → Prop} (ok : (X.wish E).Ok) : X.Ok :=
  ⟨ok.mod, ok.kind, ok.glob, ok.blt, ok.above, ok.inj, ok.has, ok.cab, ok.hd, ok.frames, ok.stk, ok.exf, ok.bs, ok.bsz, ok.noex, ok.exfs, ok.funs, ok.frf⟩
section
variable {X : Cx} {pins : List (Addr × Obj)} {σ : St} {H : Hp} {s : Shared} {E : Value → Shared → Prop}
theorem Inv.wish (I : Inv X pins σ H s) (E : Value → Shared → Prop) : Inv (X.wish E) pins σ H s := ⟨I.ok.wish E, I.os, I.bare, I.base, I.loc, I.cell, I.free, I.freeC, I.pin, I.hok, I.len⟩
theorem Inv.unwish (I : Inv (X.wish E) pins σ H s) : Inv X pins σ H s := ⟨I.ok.unwish, I.os, I.bare, I.base, I.loc, I.cell, I.free, I.freeC, I.pin, I.hok, I.len⟩
theorem SP.unwish {D : Ends} {f : Flow} {s' : Shared} (h : SP (X.wish E) pins D f s') : SP X pins D f s' := by
  cases f with
  | next => obtain ⟨σ', H', I, q⟩ := h; exact ⟨σ', H', I.unwish, q⟩
  | brk => obtain ⟨σ', H', I, q⟩ := h; exact ⟨σ', H', I.unwish, q⟩
  | cont => obtain ⟨σ', H', I, q⟩ := h; exact ⟨σ', H', I.unwish, q⟩
  | ret u => obtain ⟨v, σ', H', I, r, q⟩ := h; exact ⟨v, σ', H', I.unwish, r, q⟩
theorem PE.nox {e : Expr} {t : TE} (h : PE X.nox e t) : PE X e t := fun pins s σ H Q I hw =>
  wpAny_mono (h pins s σ H Q (I.wish _) hw) (fun _ _ ⟨v, H', I', r, q⟩ => ⟨v, H', I'.unwish, r, q⟩) fun _ _ z => False.elim z
theorem PT.nox {e : Expr} {t : TT} (h : PT X.nox e t) : PT X e t := fun pins s σ H Q I hw =>
  wpAny_mono (h pins s σ H Q (I.wish _) hw) (fun _ _ ⟨H', I', q⟩ => ⟨H', I'.unwish, q⟩) fun _ _ z => False.elim z
theorem PSs.nox {st : List Stmt} {t : TS} (h : PSs X.nox st t) : PSs X st t := fun pins s σ H D I hw =>
  wpAny_mono (h pins s σ H D (I.wish _) hw) (fun _ _ q => q.unwish) fun _ _ z => False.elim z
end
section
variable {X : Cx} {st : Stmt} {rest : List Stmt} {t u : TS} {e : Expr} {te : TE} {pos : Pos}
def tNext : TS := fun D σ H => D.nx σ H
def tSeq (t u : TS) : TS := fun D σ H => t { D with nx := u D } σ H
theorem pss_nil : PSs X [] tNext := fun _ _ σ H _ I h => wpAny_execs_nil ⟨σ, H, I, h⟩
theorem pss_cons (h1 : PS X st t) (h2 : PSs X rest u) : PSs X (st :: rest) (tSeq t u) := by
  intro pins s σ H D I h
  refine wpAny_execs_cons (thn (h1 pins s σ H { D with nx := u D } I h) fun f s1 q => ?_)
  cases f with
  | next =>
    obtain ⟨σ', H', I', q⟩ := q
    exact h2 pins s1 σ' H' D I' q
  | ret v => exact q
  | brk => exact q
  | cont => exact q
theorem pss_one (h1 : PS X st t) : PSs X [st] t := by
  intro pins s σ H D I h
  refine wpAny_execs_cons (thn (h1 pins s σ H D I h) fun f s1 q => ?_)
  cases f with
  | next => exact wpAny_execs_nil q
  | ret v => exact q
  | brk => exact q
  | cont => exact q
theorem Inv.quiet {pins : List (Addr × Obj)} {σ : St} {H : Hp} {s : Shared} (I : Inv X pins σ H s) : interactive X.env = false := by simp [interactive, I.ok.kind]
def tDrop (te : TE) : TS := fun D σ H => te σ H fun _ H1 => D.nx σ H1
theorem ps_expr (he : PE X e te) (hs : swapsWith e none pos.line X.env = pure false := by rfl) : PS X (.Expr e pos) (tDrop te) := by
  intro pins s σ H D I h
  exact wpAny_Expr_any (thn (he pins s σ H _ I h) fun v s1 ⟨x, H1, I1, r1, q1⟩ => ⟨σ, H1, I1, q1⟩) I.quiet hs
def tRet (te : TE) : TS := fun D σ H => te σ H D.rt
theorem ps_ret (he : PE X e te) : PS X (.Return (some e) pos) (tRet te) := by
  intro pins s σ H D I h
  exact wpAny_Return_some (thn (he pins s σ H _ I h) fun v s1 ⟨x, H1, I1, r1, q1⟩ => ⟨x, σ, H1, I1, r1, q1⟩)
def tIfS (c : TT) (t u : TS) : TS := fun D σ H => c σ H fun b H1 => if b = true then t D σ H1 else u D σ H1
theorem ps_if {c : Expr} {a b : List Stmt} {tc : TT} (hc : PT X c tc) (ha : PSs X a t) (hb : PSs X b u) : PS X (.If c a b pos) (tIfS tc t u) := by
  intro pins s σ H D I h
  refine wpAny_If (thn (hc pins s σ H _ I h) fun d s1 ⟨H1, I1, q1⟩ => ?_)
  cases d with
  | true => exact ha pins s1 σ H1 D I1 q1
  | false => exact hb pins s1 σ H1 D I1 q1
def tNever : TS := fun _ _ _ => False
theorem pss_never {sts : List Stmt} : PSs X sts tNever := fun _ _ _ _ _ _ h => h.elim
end
abbrev TG := V → St → Hp → (St → Hp → Prop) → Prop
abbrev TGs := List V → St → Hp → (St → Hp → Prop) → Prop
def PG (X : Cx) (target : Expr) (t : TG) : Prop :=
  ∀ (pins : List (Addr × Obj)) (s : Shared) (σ : St) (H : Hp) (v : V) (u : Value) (Q : St → Hp → Prop), Inv X pins σ H s → RelV v u → t v σ H Q →
    wpAny (model X.prog X.w) X.A (assign target X.env u) (fun _ s' => ∃ σ' H', Inv X pins σ' H' s' ∧ Q σ' H') X.xe s
def PGs (X : Cx) (ts : List Expr) (t : TGs) : Prop :=
  ∀ (pins : List (Addr × Obj)) (s : Shared) (σ : St) (H : Hp) (vs : List V) (us : List Value) (Q : St → Hp → Prop), Inv X pins σ H s → Vals vs us → t vs σ H Q →
    wpAny (model X.prog X.w) X.A (assignInOrder ((assignEach ts X.env).map (·.2)) us) (fun _ s' => ∃ σ' H', Inv X pins σ' H' s' ∧ Q σ' H') X.xe s
section
variable {X : Cx} {pos : Pos}
def gName (i : Nat) : TG := fun v σ H Q => Q (σ.set i (some v)) H
theorem pg_name {i : Nat} {x : Str} (hN : X.N.Nodup) (hi : X.N[i]? = some x) (hx : Loc X.env.scope x) (hf : X.fn x = true ∨ X.env.scope.names.lookup x = some .local := by first | exact .inl rfl | exact .inr rfl | assumption) : PG X (.Name x pos) (gName i) := by
  intro pins s σ H v u Q I r h
  exact wpAny_assign_Name (store_ok I hN hi hx r (fun s' I' => ⟨_, H, I', h⟩) hf)
def gNil : TGs := fun vs σ H Q => vs = [] ∧ Q σ H
def gCons (t : TG) (u : TGs) : TGs := fun vs σ H Q => ∃ v r, vs = v :: r ∧ t v σ H fun σ' H' => u r σ' H' Q
theorem pgs_nil : PGs X [] gNil := by
  intro pins s σ H vs us Q I r h
  obtain ⟨e, h⟩ := h
  subst e
  cases r
  exact assignInOrder_nil ⟨σ, H, I, h⟩
theorem pgs_cons {e : Expr} {es : List Expr} {t : TG} {u : TGs} (h1 : PG X e t) (h2 : PGs X es u)
    (hs : (assignEach (e :: es) X.env).map (·.2) = assign e X.env :: (assignEach es X.env).map (·.2) := by rfl) : PGs X (e :: es) (gCons t u) := by
  intro pins s σ H vs us Q I r h
  obtain ⟨v, vr, e1, h⟩ := h
  subst e1
  cases r with
  | cons r rr =>
    rw [hs]
    refine assignInOrder_cons (thn (h1 pins s σ H _ _ _ I r h) fun _ s1 ⟨σ1, H1, I1, q1⟩ => ?_)
    exact h2 pins s1 σ1 H1 _ _ Q I1 rr q1
def gTup (K : PySem.W.Frag) (n : Nat) (t : TGs) : TG := fun v σ H Q => ∃ a xs, v = .ref a ∧ SqT K H a xs ∧ xs.length = n ∧ t xs σ H Q
theorem pg_tup {es : List Expr} {k : Nat} {t : TGs} {n : Nat} (hc : X.calm = true) (h : PGs X es t)
    (hn : (assignEach es X.env).length = n := by rfl) (hst : (assignEach es X.env).findIdx? (·.1) = none := by rfl) : PG X (.Tuple es k pos) (gTup X.K n t) := by
  intro pins s σ H v u Q I r hw
  obtain ⟨a, xs, e1, hq, hl, hw⟩ := hw
  subst e1
  cases r
  obtain ⟨its, rv, ht, hz⟩ := I.tuple hq
  refine assign_Tuple_tuple (I.ok.hd hc) ht (by simp [hn, ← hl, rv.length]) hst fun h' hx => ?_
  have I1 : Inv X pins σ H { s with heap := h' } := I.kept (t' := s.toks) fun b o e => hx b o (Nat.ne_of_lt (Heap.lt_size e)) e
  exact h pins _ σ H xs _ Q I1 (by simpa using rv) hw
def tAsg (te : TE) (g : TG) : TS := fun D σ H => te σ H fun x H1 => g x σ H1 D.nx
theorem ps_set {i : Nat} {x : Str} {e : Expr} {te : TE} {pos' : Pos} (hN : X.N.Nodup) (hi : X.N[i]? = some x) (hx : Loc X.env.scope x) (he : PE X e te) (hs : swapsWith e (some (.Name x pos')) pos.line X.env = pure false := by rfl) (hf : X.fn x = true ∨ X.env.scope.names.lookup x = some .local := by first | exact .inl rfl | exact .inr rfl | assumption) :
    PS X (.Assign [.Name x pos'] e pos) (tAsg te (gName i)) := by
  intro pins s σ H D I h
  refine wpAny_Assign_Name (thn (he pins s σ H _ I h) fun v s1 ⟨y, H1, I1, r1, q1⟩ => ?_) hs
  exact store_ok I1 hN hi hx r1 (fun s2 I2 => ⟨_, H1, I2, q1⟩) hf
end
section
variable {X : Cx} {pos : Pos}
def tWhile (c : TT) (tb : TS) : TS := fun D σ H => ∃ W : Nat → St → Hp → Prop, (∃ m, W m σ H) ∧ ∀ m σ H, W m σ H →
  c σ H fun b H1 => if b = true then ∃ N : St → Hp → Prop, (∀ σ' H', N σ' H' → ∃ m', m' < m ∧ W m' σ' H') ∧ tb { D with nx := N, ct := N, bk := D.nx } σ H1 else D.nx σ H1
theorem ps_while {c : Expr} {body : List Stmt} {tc : TT} {tb : TS} (hp : PassesOwn (model X.prog X.w) X.A X.env X.xe) (hc : PT X c tc) (hb : PSs X body tb) : PS X (.While c body [] pos) (tWhile tc tb) := by
  intro pins s σ H D I h
  obtain ⟨W, ⟨m0, w0⟩, turn⟩ := h
  refine wpAny_While (codeAny_whileLoop (fun n s' => ∃ σ' H', Inv X pins σ' H' s' ∧ W n σ' H') ?_ m0 ⟨σ, H, I, w0⟩)
  rintro n s1 ⟨σ1, H1, I1, w1⟩
  refine wpAny_passesOwn hp (thn (hc pins s1 σ1 H1 _ I1 (turn n σ1 H1 w1)) fun b s2 ⟨H2, I2, q2⟩ => ?_)
  cases b with
  | true =>
    obtain ⟨N, hN, q2⟩ := q2
    rw [if_pos rfl]
    refine wpAny_passesOwn hp (thn (hb pins s2 σ1 H2 _ I2 q2) fun f s3 q3 => ?_)
    cases f with
    | next =>
      obtain ⟨σ3, H3, I3, n3⟩ := q3
      obtain ⟨m', hm, w3⟩ := hN σ3 H3 n3
      exact ⟨m', hm, σ3, H3, I3, w3⟩
    | cont =>
      obtain ⟨σ3, H3, I3, n3⟩ := q3
      obtain ⟨m', hm, w3⟩ := hN σ3 H3 n3
      exact ⟨m', hm, σ3, H3, I3, w3⟩
    | brk => exact q3
    | ret v => exact q3
  | false =>
    rw [if_neg Bool.false_ne_true]
    exact wpAny_execs_nil ⟨σ1, H2, I2, q2⟩
end
structure It where
  go : Nat → Hp → Prop
  yld : Nat → Hp → V → Hp → Prop
  stop : Nat → Hp → Prop
def FpOk (X : Cx) (pins : List (Addr × Obj)) (H : Hp) (b : Addr) : Prop :=
  H b = none ∧ b ≠ X.env.locals ∧ b ∉ X.fs ∧ (b ∈ X.ex ∨ X.s_0.heap.objs.size ≤ b) ∧ (∀ x c, X.env.cells.lookup x = some c → c ≠ b) ∧ ∀ p ∈ X.pn ++ pins, p.1 ≠ b
theorem Inv.fpOk {X : Cx} {pins : List (Addr × Obj)} {σ : St} {H H' : Hp} {s : Shared} {b : Addr} (I : Inv X pins σ H s) (hb : s.heap.objs.size ≤ b) (hn : H' b = none) : FpOk X pins H' b := by
  refine ⟨hn, Nat.ne_of_gt (Nat.lt_of_lt_of_le I.lt hb), I.nofs hb, .inr (Nat.le_trans I.sz hb), fun x c e z => ?_, fun p hp z => ?_⟩
  · obtain ⟨v, q⟩ := I.cell x c e
    exact absurd (Nat.lt_of_lt_of_le q.lt (by rw [z]; exact hb)) (Nat.lt_irrefl _)
  · exact absurd (Nat.lt_of_lt_of_le (Heap.lt_size (I.pin p hp).1) (by rw [z]; exact hb)) (Nat.lt_irrefl _)
structure Turn (P : Program) (w : World) (K : PySem.W.Frag) (tg : Expr) (J : It) (fp : List Addr) (it : Addr) (tn : Nat → Heap → Prop) : Prop where
  mem : it ∈ fp
  obj : ∀ i h, tn i h → ∀ b ∈ fp, ∃ o, h.get? b = some o ∧ ∀ v, o.data ≠ .cell v
  keep : ∀ i h h', tn i h → (∀ b ∈ fp, ∀ o, h.get? b = some o → h'.get? b = some o) → tn i h'
  item : ∀ (X : Cx), X.prog = P → X.w = w → X.K = K → X.calm = true → ∀ (i : Nat) (pins : List (Addr × Obj)) (s : Shared) (σ : St) (H : Hp) (E : Value → Shared → Prop), Inv X pins σ H s → (∀ b ∈ fp, FpOk X pins H b) → tn i s.heap → J.go i H →
    wpAny (model P w) X.A (pyNext (.ref it)) (fun r s1 => ∃ u, r = some u ∧
      wpAny (model P w) X.A (letOwnedTupleGo tg (.ref it) u) (fun _ s2 => ∃ x H', Inv X pins σ H' s2 ∧ RelV x u ∧ J.yld i H x H' ∧ tn (i + 1) s2.heap ∧ ∀ b ∈ fp, H' b = none) E s1) E s
  done : ∀ (X : Cx), X.prog = P → X.w = w → X.K = K → X.calm = true → ∀ (i : Nat) (pins : List (Addr × Obj)) (s : Shared) (σ : St) (H : Hp) (E : Value → Shared → Prop), Inv X pins σ H s → (∀ b ∈ fp, FpOk X pins H b) → tn i s.heap → J.stop i H →
    wpAny (model P w) X.A (pyNext (.ref it)) (fun r s1 => r = none ∧ Inv X pins σ H s1) E s
  self : ∀ (A : Around) (i : Nat) (s : Shared) (Q : Value → Shared → Prop) (E : Value → Shared → Prop), tn i s.heap → Q (.ref it) s → wpAny (model P w) A (pyIter (.ref it)) Q E s
abbrev TI := St → Hp → (It → Hp → Prop) → Prop
def PIE (X : Cx) (pins : List (Addr × Obj)) (σ : St) (tg : Expr) (R : It → Hp → Prop) (itv : Value) (s2 : Shared) : Prop :=
  ∃ (it : Addr) (fp : List Addr) (tn : Nat → Heap → Prop) (J : It) (H' : Hp), itv = .ref it ∧ Inv X pins σ H' s2 ∧ Turn X.prog X.w X.K tg J fp it tn ∧ tn 0 s2.heap ∧ (∀ b ∈ fp, FpOk X pins H' b) ∧ R J H'
def PI (X : Cx) (tg iter : Expr) (wi : TI) : Prop :=
  ∀ (pins : List (Addr × Obj)) (s : Shared) (σ : St) (H : Hp) (R : It → Hp → Prop), Inv X pins σ H s → wi σ H R →
    wpAny (model X.prog X.w) X.A (eval iter X.env) (fun v s1 => wpAny (model X.prog X.w) X.A (pyIter v) (PIE X pins σ tg R) X.xe s1) X.xe s
theorem go_of {M : Model} {A : Around} {E : Value → Shared → Prop} {s : Shared} {tg : Expr} {it : Addr} {u : Value} {o : Obj} {n : String} {vs : Array Value} {Q : Unit → Shared → Prop} (ho : s.heap.get? it = some o) (hc : o.cls = .type n) (hd : o.data = .fields vs)
    (hn : ["enumerate", "zip", "dict_itemiterator", "dict_reverseitemiterator", "odict_iterator", "itertools.zip_longest", "itertools.pairwise"].contains n = false) (hQ : Q () s) : wpAny M A (letOwnedTupleGo tg (.ref it) u) Q E s := by
  unfold letOwnedTupleGo
  cases tg <;> first
    | exact wpAny_pure hQ
    | (cases u <;> first
        | exact wpAny_pure hQ
        | (refine wpAny_bind (wpAny_load ho ?_)
           rw [hc, hd]
           show wpAny M A (if (["enumerate", "zip", "dict_itemiterator", "dict_reverseitemiterator", "odict_iterator", "itertools.zip_longest", "itertools.pairwise"].contains n && vs[0]? == some (rawInt _)) = true then _ else _) Q E s
           rw [if_neg (by intro h; rw [hn, Bool.false_and] at h; cases h)]
           exact wpAny_pure hQ))
def Itl (K : PySem.W.Frag) (a : Addr) : It :=
  ⟨fun i H => ∃ xs x, SqL K H a xs ∧ xs[i]? = some x, fun i H x H' => H' = H ∧ ∀ xs, SqL K H a xs → xs[i]? = some x, fun i H => ∃ xs, SqL K H a xs ∧ xs.length ≤ i⟩
theorem turn_list {P : Program} {w : World} {K : PySem.W.Frag} {tg : Expr} (a it : Addr) : Turn P w K tg (Itl K a) [it] it (fun i h => h.IsListIter it a i) where
  mem := by simp
  obj := fun i h st b hb => by
    have e : b = it := by simpa using hb
    subst e
    obtain ⟨o, e, c, d⟩ := st
    exact ⟨o, e, fun v z => by rw [d] at z; cases z⟩
  keep := fun i h h' st k => st.at fun o e => k it (by simp) o e
  item := by
    intro X hP hw hK hc i pins s σ H E I hf st hg
    subst hP hw hK
    obtain ⟨xs, x, hq, hx⟩ := hg
    obtain ⟨its, rv, p, hz⟩ := I.list hq
    obtain ⟨u, hu, ru⟩ := rv.get hx
    obtain ⟨f0, f1, f2, f3, f4, f5⟩ := hf it (by simp)
    refine wpAny_pyNext_list_item st p.isList (x := u) (by simpa using hu) fun h' st' sb => ?_
    have I1 : Inv X pins σ H { s with heap := h' } := I.turned (t' := s.toks) (fun b o hb e => (sb.2 b hb).trans e) f0 f1 f3 f4 f5
    obtain ⟨o, e, c, d⟩ := id st'
    exact ⟨u, rfl, go_of (s := { s with heap := h' }) e c d (by decide) ⟨x, H, I1, ru, ⟨rfl, fun ys hy => by rw [I.list_inj hy hq]; exact hx⟩, st', fun b hb => (hf b hb).1⟩⟩
  done := by
    intro X hP hw hK hc i pins s σ H E I hf st hg
    subst hP hw hK
    obtain ⟨xs, hq, hx⟩ := hg
    obtain ⟨its, rv, p, hz⟩ := I.list hq
    obtain ⟨f0, f1, f2, f3, f4, f5⟩ := hf it (by simp)
    have hl := rv.length
    exact wpAny_pyNext_list_end (I.ok.hd hc) st p.isList (by simp; omega) fun h' eb => ⟨rfl, I.turned (t' := s.toks) (fun b o hb e => eb b o hb e) f0 f1 f3 f4 f5⟩
  self := fun _ _ _ _ _ st h => wpAny_pyIter_listiter st h
end L2
namespace L2
open PySem PySem.Spec PyProof.Rows
section
variable {X : Cx} {tg : Expr}
def iList (K : PySem.W.Frag) (tl : TE) : TI := fun σ H R => tl σ H fun x H1 => ∃ a, x = .ref a ∧ (∃ xs, SqL K H1 a xs) ∧ R (Itl K a) H1
theorem pi_list {l : Expr} {tl : TE} (hl : PE X l tl) : PI X tg l (iList X.K tl) := by
  intro pins s σ H R I h
  refine thn (hl pins s σ H _ I h) fun v s1 ⟨x, H1, I1, r1, q1⟩ => ?_
  obtain ⟨a, e, ⟨xs, hq⟩, q⟩ := q1
  subst e
  cases r1
  obtain ⟨its, rv, p, hz⟩ := I1.list hq
  refine wpAny_pyIter_list p.isList ?_
  refine ⟨s1.heap.objs.size, [s1.heap.objs.size], _, _, H1, rfl, I1.kept (t' := s1.toks) fun b o e => Heap.get?_push_of_some _ e, turn_list a _, ⟨_, Heap.get?_push_size _ rfl, rfl, rfl⟩, fun b hb => ?_, q⟩
  have e : b = s1.heap.objs.size := by simpa using hb
  subst e
  exact I1.fpOk (Nat.le_refl _) (I1.hok.fresh (Nat.le_refl _))
def tFor (wi : TI) (g : TG) (tb : TS) : TS := fun D σ H => wi σ H fun J H1 => ∃ W : Nat → Nat → St → Hp → Prop, (∃ m, W 0 m σ H1) ∧ ∀ i m σ H, W i m σ H →
  (J.stop i H ∧ D.nx σ H) ∨ (J.go i H ∧ ∃ N : St → Hp → Prop, (∀ σ' H', N σ' H' → ∃ m', m' < m ∧ W (i + 1) m' σ' H') ∧ ∀ x H', J.yld i H x H' → g x σ H' fun σ2 H2 => tb { D with nx := N, ct := N, bk := D.nx } σ2 H2)
def pinsAt (fp : List Addr) (h : Heap) : List (Addr × Obj) := fp.filterMap fun b => (h.get? b).map fun o => (b, o)
theorem mem_pinsAt {fp : List Addr} {h : Heap} {b : Addr} {o : Obj} (hb : b ∈ fp) (e : h.get? b = some o) : (b, o) ∈ pinsAt fp h := List.mem_filterMap.mpr ⟨b, hb, by rw [e]; rfl⟩
theorem of_pinsAt {fp : List Addr} {h : Heap} {p : Addr × Obj} (hp : p ∈ pinsAt fp h) : p.1 ∈ fp ∧ h.get? p.1 = some p.2 := by
  obtain ⟨b, hb, e⟩ := List.mem_filterMap.mp hp
  cases q : h.get? b with
  | none => rw [q] at e; cases e
  | some o =>
    rw [q] at e
    have e' : (b, o) = p := Option.some.inj e
    subst e'
    exact ⟨hb, q⟩
theorem Inv.pinned {pins : List (Addr × Obj)} {σ : St} {H : Hp} {s : Shared} {fp : List Addr} (I : Inv X pins σ H s) (hf : ∀ b ∈ fp, FpOk X pins H b) (ho : ∀ b ∈ fp, ∃ o, s.heap.get? b = some o ∧ ∀ v, o.data ≠ .cell v) : Inv X (pins ++ pinsAt fp s.heap) σ H s :=
  I.pins_of fun p hp => (List.mem_append.mp hp).elim (fun z => I.pin p (List.mem_append_right _ z)) fun z => by
    obtain ⟨hb, e⟩ := of_pinsAt z
    obtain ⟨f0, f1, f2, _⟩ := hf p.1 hb
    obtain ⟨o, e', d⟩ := ho p.1 hb
    rw [e] at e'; cases e'
    exact ⟨e, f0, f1, f2, d⟩
theorem Inv.unpinned {pins pl : List (Addr × Obj)} {σ : St} {H : Hp} {s : Shared} (I : Inv X (pins ++ pl) σ H s) : Inv X pins σ H s := I.pins_of fun p hp => I.pin p (List.mem_append_right _ (List.mem_append_left _ hp))
theorem ps_for {iter : Expr} {body : List Stmt} {wi : TI} {g : TG} {tb : TS} {pos : Pos} (hp : PassesOwn (model X.prog X.w) X.A X.env X.xe) (hc : X.calm = true) (hi : PI X tg iter wi) (hg : PG X tg g) (hb : PSs X body tb)
    (hs : ∀ x, foldedSetIterable iter X.env x = pure x := by intro _; rfl) : PS X (.For tg iter body [] pos) (tFor wi g tb) := by
  intro pins s σ H D I h
  refine wpAny_For (thn (hi pins s σ H _ I h) fun v s1 h1 => thn h1 fun itv s2 h2 => ?_) hs
  obtain ⟨it, fp, tn, J, H2, e, I2, T, st2, f2, W, ⟨m0, w0⟩, turn⟩ := h2
  subst e
  -- what stays true of the iterator's objects through the loop
  have stat : ∀ {H' : Hp}, (∀ b ∈ fp, H' b = none) → ∀ b ∈ fp, FpOk X pins H' b := fun hn b hb => ⟨hn b hb, (f2 b hb).2⟩
  refine codeAny_forLoop_any (fun n s' => ∃ i σ' H', Inv X pins σ' H' s' ∧ tn i s'.heap ∧ (∀ b ∈ fp, H' b = none) ∧ W i n σ' H') ?_ m0 ⟨0, σ, H2, I2, st2, fun b hb => (f2 b hb).1, w0⟩
  rintro n s3 ⟨i, σ3, H3, I3, st3, fr3, w3⟩
  rcases turn i n σ3 H3 w3 with ⟨stop, qn⟩ | ⟨go, N, hN, step⟩
  · refine wpAny_passesOwn hp (thn (T.done X rfl rfl rfl hc i pins s3 σ3 H3 X.xe I3 (stat fr3) st3 stop) fun r s4 ⟨hr, I4⟩ => ?_)
    subst hr
    exact wpAny_execs_nil ⟨σ3, H3, I4, qn⟩
  · refine wpAny_passesOwn hp (thn (T.item X rfl rfl rfl hc i pins s3 σ3 H3 X.xe I3 (stat fr3) st3 go) fun r s4 ⟨u, hr, h4⟩ => ?_)
    subst hr
    refine wpAny_passesOwn hp (thn h4 fun _ s5 ⟨x, H5, I5, r5, y5, st5, fr5⟩ => ?_)
    have I5' := I5.pinned (stat fr5) (T.obj _ _ st5)
    refine wpAny_passesOwn hp (thn (hg _ s5 σ3 H5 x u _ I5' r5 (step x H5 y5)) fun _ s6 ⟨σ6, H6, I6, q6⟩ => ?_)
    refine wpAny_passesOwn hp (thn (hb _ s6 σ6 H6 _ I6 q6) fun f s7 q7 => ?_)
    have again : ∀ {σ7 : St} {H7 : Hp}, Inv X (pins ++ pinsAt fp s5.heap) σ7 H7 s7 → N σ7 H7 → ∃ m, m < n ∧ ∃ i σ' H', Inv X pins σ' H' s7 ∧ tn i s7.heap ∧ (∀ b ∈ fp, H' b = none) ∧ W i m σ' H' := fun {σ7 H7} I7 n7 => by
      obtain ⟨m', hm, w7⟩ := hN σ7 H7 n7
      refine ⟨m', hm, i + 1, σ7, H7, I7.unpinned, T.keep _ _ _ st5 fun b hb o e => (I7.pin (b, o) (List.mem_append_right _ (List.mem_append_right _ (mem_pinsAt hb e)))).1, fun b hb => ?_, w7⟩
      obtain ⟨o, e, d⟩ := T.obj _ _ st5 b hb
      exact (I7.pin (b, o) (List.mem_append_right _ (List.mem_append_right _ (mem_pinsAt hb e)))).2.1
    cases f with
    | next => obtain ⟨σ7, H7, I7, n7⟩ := q7; exact again I7 n7
    | cont => obtain ⟨σ7, H7, I7, n7⟩ := q7; exact again I7 n7
    | brk => obtain ⟨σ7, H7, I7, q7⟩ := q7; exact ⟨σ7, H7, I7.unpinned, q7⟩
    | ret v => obtain ⟨x7, σ7, H7, I7, r7, q7⟩ := q7; exact ⟨x7, σ7, H7, I7.unpinned, r7, q7⟩
end
theorem for_list {K : PySem.W.Frag} {a : Addr} {xs : List V} {g : TG} {tb : TS} {D : Ends} {σ : St} {H : Hp} (Pv : Nat → St → Hp → Prop) (h0 : Pv 0 σ H) (hl : ∀ i σ H, i ≤ xs.length → Pv i σ H → SqL K H a xs)
    (hs : ∀ i x σ H, xs[i]? = some x → Pv i σ H → g x σ H fun σ2 H2 => tb { D with nx := Pv (i + 1), ct := Pv (i + 1), bk := D.nx } σ2 H2) (hd : ∀ σ H, Pv xs.length σ H → D.nx σ H) :
    ∃ W : Nat → Nat → St → Hp → Prop, (∃ m, W 0 m σ H) ∧ ∀ i m σ H, W i m σ H →
      ((Itl K a).stop i H ∧ D.nx σ H) ∨ ((Itl K a).go i H ∧ ∃ N : St → Hp → Prop, (∀ σ' H', N σ' H' → ∃ m', m' < m ∧ W (i + 1) m' σ' H') ∧ ∀ x H', (Itl K a).yld i H x H' → g x σ H' fun σ2 H2 => tb { D with nx := N, ct := N, bk := D.nx } σ2 H2) := by
  refine ⟨fun i m σ H => m = xs.length - i ∧ i ≤ xs.length ∧ Pv i σ H, ⟨xs.length, by simp, Nat.zero_le _, h0⟩, ?_⟩
  rintro i m σ H ⟨rfl, hi, p⟩
  have q := hl i σ H hi p
  by_cases hlt : i < xs.length
  · refine .inr ⟨⟨xs, xs[i], q, by simp [hlt]⟩, Pv (i + 1), fun σ' H' p' => ⟨xs.length - (i + 1), by omega, rfl, hlt, p'⟩, fun x H' y => ?_⟩
    obtain ⟨e, y⟩ := y
    subst e
    exact hs i x σ _ (y xs q) p
  · have e : i = xs.length := by omega
    subst e
    exact .inl ⟨⟨xs, q, Nat.le_refl _⟩, hd σ H p⟩
end L2
namespace L2
open PySem PySem.Spec PyProof.Rows
abbrev R2 := V → V → Hp → VK → Prop
def OpR (X : Cx) (f : Value → Value → Sem Value) (r : R2) : Prop :=
  ∀ (pins : List (Addr × Obj)) (s : Shared) (σ : St) (H : Hp) (x y : V) (v u : Value) (Q : VK), Inv X pins σ H s → RelV x v → RelV y u → r x y H Q →
    wpAny (model X.prog X.w) X.A (f v u) (EP X pins σ Q) X.xe s
def UnR (X : Cx) (f : Value → Sem Value) (r : V → Hp → VK → Prop) : Prop :=
  ∀ (pins : List (Addr × Obj)) (s : Shared) (σ : St) (H : Hp) (x : V) (v : Value) (Q : VK), Inv X pins σ H s → RelV x v → r x H Q →
    wpAny (model X.prog X.w) X.A (f v) (EP X pins σ Q) X.xe s
def CallR (X : Cx) (f : Value) (r : List V → Hp → VK → Prop) : Prop :=
  ∀ (pins : List (Addr × Obj)) (s : Shared) (σ : St) (H : Hp) (xs : List V) (us : List Value) (Q : VK), Inv X pins σ H s → Vals xs us → r xs H Q →
    wpAny (model X.prog X.w) X.A (call f us) (EP X pins σ Q) X.xe s
def TruR (X : Cx) (r : V → Hp → (Bool → Hp → Prop) → Prop) : Prop :=
  ∀ (pins : List (Addr × Obj)) (s : Shared) (σ : St) (H : Hp) (x : V) (v : Value) (Q : Bool → Hp → Prop), Inv X pins σ H s → RelV x v → r x H Q →
    wpAny (model X.prog X.w) X.A (truthy v) (TP X pins σ Q) X.xe s
def tOp (r : R2) (ta tb : TE) : TE := fun σ H Q => ta σ H fun x H1 => tb σ H1 fun y H2 => r x y H2 Q
def tUn (r : V → Hp → VK → Prop) (ta : TE) : TE := fun σ H Q => ta σ H fun x H1 => r x H1 Q
def rI (C : Int → Int → Prop) (g : Int → Int → V) : R2 := fun x y H Q => ∃ i j, x = .int i ∧ y = .int j ∧ C i j ∧ Q (g i j) H
def rI0 (g : Int → Int → V) : R2 := fun x y H Q => ∃ i j, x = .int i ∧ y = .int j ∧ Q (g i j) H
def rU (g : Int → V) : V → Hp → VK → Prop := fun x H Q => ∃ i, x = .int i ∧ Q (g i) H
section
variable {X : Cx} {a b c : Expr} {ta tb tc : TE} {pos : Pos}
theorem binT (ha : PE X a ta) (hb : PE X b tb) {pins : List (Addr × Obj)} {s : Shared} {σ : St} {H : Hp} {R : V → V → Hp → Prop} (I : Inv X pins σ H s)
    (h : ta σ H fun x H1 => tb σ H1 fun y H2 => R x y H2) {Q : Value → Shared → Prop} {f : Value → Value → Sem Value}
    (hf : ∀ v u s2 x y H2, Inv X pins σ H2 s2 → RelV x v → RelV y u → R x y H2 → wpAny (model X.prog X.w) X.A (f v u) Q X.xe s2) :
    wpAny (model X.prog X.w) X.A (eval a X.env) (fun v s₁ => wpAny (model X.prog X.w) X.A (eval b X.env) (fun u s₂ => wpAny (model X.prog X.w) X.A (f v u) Q X.xe s₂) X.xe s₁) X.xe s := by
  refine thn (ha pins s σ H _ I h) fun v s1 ⟨x, H1, I1, r1, q1⟩ => ?_
  refine thn (hb pins s1 σ H1 _ I1 q1) fun u s2 ⟨y, H2, I2, r2, q2⟩ => ?_
  exact hf v u s2 x y H2 I2 r1 r2 q2
theorem pe_op {op : Operator} {r : R2} (ho : OpR X (binaryOp op) r) (ha : PE X a ta) (hb : PE X b tb) : PE X (.BinOp a op b pos) (tOp r ta tb) := by
  intro pins s σ H Q I h
  exact wpAny_BinOp (binT ha hb I h fun v u s2 x y H2 I2 rx ry q => ho pins s2 σ H2 x y v u Q I2 rx ry q)
theorem pe_un {op : UnaryOp} {r : V → Hp → VK → Prop} (ho : UnR X (unaryOp op) r) (ha : PE X a ta) : PE X (.UnaryOp op a pos) (tUn r ta) := by
  intro pins s σ H Q I h
  exact UnaryOp_ (thn (ha pins s σ H _ I h) fun v s1 ⟨x, H1, I1, r1, q1⟩ => ho pins s1 σ H1 x v Q I1 r1 q1)
theorem opI {f : Value → Value → Sem Value} {C : Int → Int → Prop} {g : Int → Int → Int}
    (rule : ∀ (i j : Int) (t u : Tok) (s : Shared) (Q : Value → Shared → Prop) (E : Value → Shared → Prop), C i j → Q (.int (g i j) s.toks) { s with toks := s.toks + 1 } → wpAny (model X.prog X.w) X.A (f (.int i t) (.int j u)) Q E s) :
    OpR X f (rI C fun i j => .int (g i j)) := by
  intro pins s σ H x y v u Q I rx ry h
  obtain ⟨i, j, rfl, rfl, hc, q⟩ := h
  obtain ⟨t, rfl⟩ := rx
  obtain ⟨t', rfl⟩ := ry
  exact rule i j t t' s _ _ hc ⟨.int (g i j), H, I.tok _, ⟨_, rfl⟩, q⟩
theorem opI0 {f : Value → Value → Sem Value} {g : Int → Int → Int}
    (rule : ∀ (i j : Int) (t u : Tok) (s : Shared) (Q : Value → Shared → Prop) (E : Value → Shared → Prop), Q (.int (g i j) s.toks) { s with toks := s.toks + 1 } → wpAny (model X.prog X.w) X.A (f (.int i t) (.int j u)) Q E s) :
    OpR X f (rI0 fun i j => .int (g i j)) := by
  intro pins s σ H x y v u Q I rx ry h
  obtain ⟨i, j, rfl, rfl, q⟩ := h
  obtain ⟨t, rfl⟩ := rx
  obtain ⟨t', rfl⟩ := ry
  exact rule i j t t' s _ _ ⟨.int (g i j), H, I.tok _, ⟨_, rfl⟩, q⟩
theorem opB0 {f : Value → Value → Sem Value} {g : Int → Int → Bool}
    (rule : ∀ (i j : Int) (t u : Tok) (s : Shared) (Q : Value → Shared → Prop) (E : Value → Shared → Prop), Q (.bool (g i j)) s → wpAny (model X.prog X.w) X.A (f (.int i t) (.int j u)) Q E s) :
    OpR X f (rI0 fun i j => .bl (g i j)) := by
  intro pins s σ H x y v u Q I rx ry h
  obtain ⟨i, j, rfl, rfl, q⟩ := h
  obtain ⟨t, rfl⟩ := rx
  obtain ⟨t', rfl⟩ := ry
  exact rule i j t t' s _ _ ⟨.bl (g i j), H, I, rfl, q⟩
def CMul (i j : Int) : Prop := (-(2 ^ 64) < i ∧ i < 2 ^ 64) ∨ (-(2 ^ 64) < j ∧ j < 2 ^ 64)
theorem CMul.ok {i j : Int} (h : CMul i j) : IntMulOk i j := by
  rcases h with ⟨h1, h2⟩ | ⟨h1, h2⟩
  · exact .of_left (intBits_le_64 h1 h2)
  · exact .of_right (intBits_le_64 h1 h2)
theorem two_pow_nn (k : Nat) : (0 : Int) ≤ 2 ^ k := by
  rw [two_pow_cast]
  exact Int.natCast_nonneg _
theorem op_add : OpR X (binaryOp .Add) (rI0 fun i j => .int (i + j)) := opI0 fun _ _ _ _ _ _ _ q => add_int q
theorem op_sub : OpR X (binaryOp .Sub) (rI0 fun i j => .int (i - j)) := opI0 fun _ _ _ _ _ _ _ q => sub_int q
theorem op_shr : OpR X (binaryOp .RShift) (rI (fun _ j => 0 ≤ j) fun i j => .int (i / 2 ^ j.toNat)) := opI fun i j _ _ _ _ _ hc q =>
  rshift_int hc (by rw [Int.fdiv_eq_ediv_of_nonneg i (two_pow_nn _)]; exact q)
theorem op_and : OpR X (binaryOp .BitAnd) (rI0 fun i j => .int (Builtin.bitAnd i j)) := opI0 fun _ _ _ _ _ _ _ q => and_int q
theorem unI {f : Value → Sem Value} {g : Int → Int}
    (rule : ∀ (i : Int) (t : Tok) (s : Shared) (Q : Value → Shared → Prop) (E : Value → Shared → Prop), Q (.int (g i) s.toks) { s with toks := s.toks + 1 } → wpAny (model X.prog X.w) X.A (f (.int i t)) Q E s) :
    UnR X f (rU fun i => .int (g i)) := by
  intro pins s σ H x v Q I rx h
  obtain ⟨i, rfl, q⟩ := h
  obtain ⟨t, rfl⟩ := rx
  exact rule i t s _ _ ⟨.int (g i), H, I.tok _, ⟨_, rfl⟩, q⟩
theorem un_neg : UnR X (unaryOp .USub) (rU fun i => .int (-i)) := unI fun _ _ _ _ _ q => neg_int q
end
def scal : V → V → Bool
  | .non, .non => true | .non, .int _ => true | .int _, .non => true | .non, .bl _ => true | .bl _, .non => true | .non, .str _ => true | .str _, .non => true
  | .int _, .int _ => true | .bl _, .bl _ => true | .str _, .str _ => true | .byt _, .byt _ => true
  | .int _, .str _ => true | .str _, .int _ => true | .bl _, .str _ => true | .str _, .bl _ => true
  | _, _ => false
def rEq : R2 := fun x y H Q => scal x y = true ∧ Q (.bl (decide (x = y))) H
def rNe : R2 := fun x y H Q => scal x y = true ∧ Q (.bl (!decide (x = y))) H
theorem dec_int {i j : Int} : decide (V.int i = V.int j) = (i == j) := by
  rw [Bool.eq_iff_iff]
  simp
theorem dec_bl {i j : Bool} : decide (V.bl i = V.bl j) = (i == j) := by
  rw [Bool.eq_iff_iff]
  simp
theorem dec_str {i j : Str} : decide (V.str i = V.str j) = (i == j) := by
  rw [Bool.eq_iff_iff]
  simp
theorem dec_byt {i j : Array UInt8} : decide (V.byt i = V.byt j) = (i.toList == j.toList) := by
  rw [Bool.eq_iff_iff]
  cases i
  cases j
  simp
section
variable {X : Cx} {a b c : Expr} {ta tb tc : TE} {pos : Pos}
theorem fin_bl {pins : List (Addr × Obj)} {σ : St} {H : Hp} {s : Shared} {Q : VK} {k k' : Bool} (I : Inv X pins σ H s) (q : Q (.bl k) H) (e : k = k') : EP X pins σ Q (.bool k') s := by
  subst e
  exact ⟨.bl k, H, I, rfl, q⟩
theorem op_eq : OpR X (compareOp .Eq) rEq := by
  intro pins s σ H x y v u Q I rx ry h
  obtain ⟨hs, q⟩ := h
  cases x with
  | non =>
    cases rx
    cases y with
    | non => cases ry; exact PySem.EqNone.eq_none_none (fin_bl I q (by simp))
    | bl j => cases ry; exact PySem.EqNone.eq_none_bool (fin_bl I q (by simp))
    | int j => obtain ⟨t', rfl⟩ := ry; exact PySem.EqNone.eq_none_int (fin_bl I q (by simp))
    | str j => obtain ⟨t', rfl⟩ := ry; exact PySem.EqNone.eq_none_str (fin_bl I q (by simp))
    | _ => exact absurd (show false = true from hs) Bool.false_ne_true
  | bl i =>
    cases rx
    cases y with
    | non => cases ry; exact PySem.EqNone.eq_bool_none (fin_bl I q (by simp))
    | bl j => cases ry; exact eq_bool (fin_bl I q dec_bl)
    | str j => obtain ⟨t', rfl⟩ := ry; exact PySem.EqMixed.eq_bool_str (fin_bl I q (by simp))
    | _ => exact absurd (show false = true from hs) Bool.false_ne_true
  | int i =>
    obtain ⟨t, rfl⟩ := rx
    cases y with
    | non => cases ry; exact PySem.EqNone.eq_int_none (fin_bl I q (by simp))
    | int j => obtain ⟨t', rfl⟩ := ry; exact eq_int (fin_bl I q dec_int)
    | str j => obtain ⟨t', rfl⟩ := ry; exact PySem.EqMixed.eq_int_str (fin_bl I q (by simp))
    | _ => exact absurd (show false = true from hs) Bool.false_ne_true
  | str i =>
    obtain ⟨t, rfl⟩ := rx
    cases y with
    | non => cases ry; exact PySem.EqNone.eq_str_none (fin_bl I q (by simp))
    | bl j => cases ry; exact PySem.EqMixed.eq_str_bool (fin_bl I q (by simp))
    | int j => obtain ⟨t', rfl⟩ := ry; exact PySem.EqMixed.eq_str_int (fin_bl I q (by simp))
    | str j => obtain ⟨t', rfl⟩ := ry; exact eq_str (fin_bl I q dec_str)
    | _ => exact absurd (show false = true from hs) Bool.false_ne_true
  | byt i =>
    obtain ⟨t, rfl⟩ := rx
    cases y with
    | byt j => obtain ⟨t', rfl⟩ := ry; exact PySem.W.eq_bytes (fin_bl I q dec_byt)
    | _ => exact absurd (show false = true from hs) Bool.false_ne_true
  | _ => cases y <;> exact absurd (show false = true from hs) Bool.false_ne_true
theorem op_ne : OpR X (compareOp .NotEq) rNe := by
  intro pins s σ H x y v u Q I rx ry h
  obtain ⟨hs, q⟩ := h
  cases x with
  | non =>
    cases rx
    cases y with
    | non => cases ry; exact PySem.EqNone.ne_none_none (fin_bl I q (by simp))
    | bl j => cases ry; exact PySem.EqNone.ne_none_bool (fin_bl I q (by simp))
    | int j => obtain ⟨t', rfl⟩ := ry; exact PySem.EqNone.ne_none_int (fin_bl I q (by simp))
    | str j => obtain ⟨t', rfl⟩ := ry; exact PySem.EqNone.ne_none_str (fin_bl I q (by simp))
    | _ => exact absurd (show false = true from hs) Bool.false_ne_true
  | bl i =>
    cases rx
    cases y with
    | non => cases ry; exact PySem.EqNone.ne_bool_none (fin_bl I q (by simp))
    | bl j => cases ry; exact ne_bool (fin_bl I q (congrArg not dec_bl))
    | str j => obtain ⟨t', rfl⟩ := ry; exact PySem.EqMixed.ne_bool_str (fin_bl I q (by simp))
    | _ => exact absurd (show false = true from hs) Bool.false_ne_true
  | int i =>
    obtain ⟨t, rfl⟩ := rx
    cases y with
    | non => cases ry; exact PySem.EqNone.ne_int_none (fin_bl I q (by simp))
    | int j => obtain ⟨t', rfl⟩ := ry; exact ne_int (fin_bl I q (congrArg not dec_int))
    | str j => obtain ⟨t', rfl⟩ := ry; exact PySem.EqMixed.ne_int_str (fin_bl I q (by simp))
    | _ => exact absurd (show false = true from hs) Bool.false_ne_true
  | str i =>
    obtain ⟨t, rfl⟩ := rx
    cases y with
    | non => cases ry; exact PySem.EqNone.ne_str_none (fin_bl I q (by simp))
    | bl j => cases ry; exact PySem.EqMixed.ne_str_bool (fin_bl I q (by simp))
    | int j => obtain ⟨t', rfl⟩ := ry; exact PySem.EqMixed.ne_str_int (fin_bl I q (by simp))
    | str j => obtain ⟨t', rfl⟩ := ry; exact ne_str (fin_bl I q (congrArg not dec_str))
    | _ => exact absurd (show false = true from hs) Bool.false_ne_true
  | byt i =>
    obtain ⟨t, rfl⟩ := rx
    cases y with
    | byt j => obtain ⟨t', rfl⟩ := ry; exact PySem.W.ne_bytes (fin_bl I q (congrArg not dec_byt))
    | _ => exact absurd (show false = true from hs) Bool.false_ne_true
  | _ => cases y <;> exact absurd (show false = true from hs) Bool.false_ne_true
theorem op_lt : OpR X (compareOp .Lt) (rI0 fun i j => .bl (decide (i < j))) := opB0 fun _ _ _ _ _ _ _ q => lt_int q
theorem op_le : OpR X (compareOp .LtE) (rI0 fun i j => .bl (decide (i ≤ j))) := opB0 fun _ _ _ _ _ _ _ q => le_int q
theorem op_gt : OpR X (compareOp .Gt) (rI0 fun i j => .bl (decide (j < i))) := opB0 fun _ _ _ _ _ _ _ q => gt_int q
theorem op_ge : OpR X (compareOp .GtE) (rI0 fun i j => .bl (decide (j ≤ i))) := opB0 fun _ _ _ _ _ _ _ q => ge_int q
theorem OpR.or {f : Value → Value → Sem Value} {r r' : R2} (h : OpR X f r) (h' : OpR X f r') : OpR X f (fun x y H Q => r x y H Q ∨ r' x y H Q) := by
  intro pins s σ H x y v u Q I rx ry q
  rcases q with q | q
  · exact h pins s σ H x y v u Q I rx ry q
  · exact h' pins s σ H x y v u Q I rx ry q
theorem nomark (b : Expr) {op : CmpOp} (h : op ≠ .In := by decide) (h2 : op ≠ .NotIn := by decide) : behindInMarks op b = false := by
  have e1 : (op == CmpOp.In) = false := by cases op <;> first | rfl | exact absurd rfl h
  have e2 : (op == CmpOp.NotIn) = false := by cases op <;> first | rfl | exact absurd rfl h2
  cases b <;> simp [behindInMarks, e1, e2]
theorem pe_cmpR {op : CmpOp} {r : R2} (ho : OpR X (compareOp op) r) (ha : PE X a ta) (hb : PE X b tb) (hm : behindInMarks op b = false) : PE X (.Compare a [op] [b] pos) (tOp r ta tb) := by
  intro pins s σ H Q I h
  exact wpAny_Compare1 (binT ha hb I h fun v u s2 x y H2 I2 rx ry q => ho pins s2 σ H2 x y v u Q I2 rx ry q) hm
def tTest (t : TE) : TT := fun σ H Q => t σ H fun x H' => ∃ k, x = .bl k ∧ Q k H'
theorem pt_cmpR {op : CmpOp} {r : R2} (ho : OpR X (compareOp op) r) (ha : PE X a ta) (hb : PE X b tb) (hm : behindInMarks op b = false) : PT X (.Compare a [op] [b] pos) (tTest (tOp r ta tb)) := by
  intro pins s σ H Q I h
  refine wpAny_isTrue_Compare1 (thn (ha pins s σ H _ I h) fun v s1 ⟨x, H1, I1, r1, q1⟩ => thn (hb pins s1 σ H1 _ I1 q1) fun u s2 ⟨y, H2, I2, r2, q2⟩ =>
    thn (ho pins s2 σ H2 x y v u _ I2 r1 r2 q2) fun c s3 ⟨z, H3, I3, r3, k, e, q3⟩ => ?_) hm
  subst e
  cases r3
  exact wpAny_truthy_bool ⟨H3, I3, q3⟩
def TruV (K : PySem.W.Frag) (x : V) (H : Hp) (k : Bool) : Prop :=
  match x with
  | .non => k = false
  | .bl b => k = b
  | .int i => k = (i != 0)
  | .str y => y.length ≤ sizeLine ∧ k = ((y.length : Int) != 0)
  | .byt y => y.size ≤ sizeLine ∧ k = ((y.size : Int) != 0)
  | .ref p => (∃ xs, SqL K H p xs ∧ k = !xs.isEmpty) ∨ (∃ xs, SqT K H p xs ∧ k = !xs.isEmpty) ∨ ∃ kvs, H p = some (.dK kvs) ∧ k = !kvs.isEmpty
  | _ => False
theorem isEmpty_kv {κ : Type} {kvs : List (κ × V)} {vs : List (κ × Value)} (r : KV kvs vs) : (!vs.isEmpty) = !kvs.isEmpty := by
  cases r <;> rfl
theorem isEmpty_of {xs : List V} {its : List Value} (r : Vals xs its) : (!its.toArray.isEmpty) = !xs.isEmpty := by
  cases r <;> simp
theorem line63 : (sizeLine : Nat) < 2 ^ 63 := by rw [sizeLine_eq]; decide
theorem tru_ok : TruR X (fun x H Q => ∃ k, TruV X.K x H k ∧ Q k H) := by
  intro pins s σ H x v Q I rx h
  obtain ⟨k, e, q⟩ := h
  have hl := line63
  have hs : sizeLine = 16777216 := sizeLine_eq
  cases x with
  | non =>
    cases rx
    have e' : k = false := e
    subst e'
    exact truthy_none ⟨H, I, q⟩
  | bl b =>
    cases rx
    have e' : k = b := e
    subst e'
    exact wpAny_truthy_bool ⟨H, I, q⟩
  | int i =>
    obtain ⟨t, rfl⟩ := rx
    have e' : k = (i != 0) := e
    subst e'
    exact PySem.P.truthy_int ⟨H, I, q⟩
  | str y =>
    obtain ⟨t, rfl⟩ := rx
    obtain ⟨hy, e'⟩ : y.length ≤ sizeLine ∧ k = ((y.length : Int) != 0) := e
    subst e'
    exact PySem.P.truthy_str (by omega) ⟨H, I.tok _, q⟩
  | byt y =>
    obtain ⟨t, rfl⟩ := rx
    obtain ⟨hy, e'⟩ : y.size ≤ sizeLine ∧ k = ((y.size : Int) != 0) := e
    subst e'
    exact PySem.W.truthy_bytes (by omega) ⟨H, I.tok _, q⟩
  | ref p =>
    cases rx
    have e' : (∃ xs, SqL X.K H p xs ∧ k = !xs.isEmpty) ∨ (∃ xs, SqT X.K H p xs ∧ k = !xs.isEmpty) ∨ ∃ kvs, H p = some (.dK kvs) ∧ k = !kvs.isEmpty := e
    rcases e' with ⟨xs, hx, e'⟩ | ⟨xs, hx, e'⟩ | ⟨kvs, hx, e'⟩
    · subst e'
      obtain ⟨its, r, pl, hz⟩ := I.list hx
      have hlen := r.length
      exact wpAny_truthy_list pl.isList (by simp only [List.size_toArray]; omega) ⟨H, I.tok _, by rw [isEmpty_of r]; exact q⟩
    · subst e'
      obtain ⟨its, r, pl, hz⟩ := I.tuple hx
      have hlen := r.length
      exact truthy_tuple pl (by simp only [List.size_toArray]; omega) ⟨H, I.tok _, by rw [isEmpty_of r]; exact q⟩
    · subst e'
      obtain ⟨hz, hS, vs, r, m⟩ : kvs.length ≤ sizeLine ∧ (p == sysModules) = false ∧ ∃ vs, KV kvs vs ∧ s.heap.DictOf (mixKind X.prog X.w) p vs := I.hok p _ hx
      have hlen : kvs.length = vs.length := Paired.length r
      exact wpAny_truthy_dict hS m (by omega) ⟨H, I.tok _, by rw [isEmpty_kv r]; exact q⟩
  | _ => exact (show False from e).elim
theorem pt_truth (ha : PE X a ta) (he : ∀ whole, isTrue a X.env whole = (do let v ← whole; standAt a.pos; holding [v] (truthy v))) :
    PT X a (fun σ H Q => ta σ H fun x H' => ∃ k, TruV X.K x H' k ∧ Q k H') := by
  intro pins s σ H Q I h
  exact isTrue_plain (thn (ha pins s σ H _ I h) fun v s1 ⟨x, H1, I1, r1, q1⟩ => tru_ok pins s1 σ H1 x v Q I1 r1 q1) (he _)
theorem vals1 {x : V} {us : List Value} (r : Vals [x] us) : ∃ u, us = [u] ∧ RelV x u := by
  cases r with
  | cons r1 r2 => cases r2; exact ⟨_, rfl, r1⟩
theorem vals2 {x y : V} {us : List Value} (r : Vals [x, y] us) : ∃ u w', us = [u, w'] ∧ RelV x u ∧ RelV y w' := by
  cases r with
  | cons r1 r2 =>
    cases r2 with
    | cons r3 r4 => cases r4; exact ⟨_, _, rfl, r1, r3⟩
end
end L2
namespace L2
open PySem PySem.Spec PyProof.Rows
structure ObjM (h : Heap) (x dx C : Addr) (mA : Str → Option Value) : Prop where
  obj : h.get? x = some (PySem.W.instObj C dx)
  ns : h.Ns1 dx mA
  ne : dx ≠ x
theorem lookIn_ns {h : Heap} {dx : Addr} {mA : Str → Option Value} (n : h.Ns1 dx mA) : ∃ od, h.get? dx = some od ∧ ∀ name, PySem.W.lookIn name od = some (mA name) := by
  obtain ⟨o, es, ep, ho, hd, hk, _, hm⟩ := n
  refine ⟨o, ho, fun name => ?_⟩
  have e := hm name
  unfold nsFind findBy at e
  rw [← Array.find?_toList] at e
  unfold PySem.W.lookIn
  rw [hd]
  dsimp only
  split
  · rename_i y q
    rw [q] at e
    exact congrArg some e
  · rename_i q
    rw [q] at e
    have a : es.toList.any (·.refKey) = false := by
      rw [List.any_eq_false]
      intro y hy
      obtain ⟨z, t, hkey⟩ := hk y (Array.mem_toList_iff.mp hy)
      simp [DictEntry.refKey, hkey]
    have a' : ¬ es.toList.any (·.refKey) = true := by rw [a]; exact Bool.false_ne_true
    rw [if_neg a']
    exact congrArg some e
theorem ObjM.look {h : Heap} {x dx C : Addr} {mA : Str → Option Value} (I : ObjM h x dx C mA) : ∃ od, PySem.W.InstAt h x (PySem.W.instObj C dx) C (some od) ∧ ∀ name, PySem.W.lookIn name od = some (mA name) :=
  let ⟨od, ho, hl⟩ := lookIn_ns I.ns
  ⟨od, ⟨I.obj, rfl, rfl, ho⟩, hl⟩
section
variable {prog : Program} {w : World} {A : Around} {E : Value → Shared → Prop} {s : Shared} {K : PySem.W.Frag} {x dx C f : Addr} {mA : Str → Option Value} {name : Str} {v : Value}
theorem get_map {expr : Bool} {Q : Value → Shared → Prop} (X : K.In s.heap) (I : ObjM s.heap x dx C mA) (hg : PySem.W.plainGet K C name = true) (hh : PySem.W.hasDictIn K C = true)
    (ha : PySem.W.findIn K (.ref C) name = some none) (hv : mA name = some v) (hv' : PySem.W.handedIn v = true) (h : Q v { s with toks := s.toks + 1 }) :
    wpAny (model prog w) A (getAttr (.ref x) name expr) Q E s := by
  obtain ⟨od, J, hl⟩ := I.look
  exact PySem.W.get_value X J (PySem.W.plainGet_of hg).1 (PySem.W.findObj_own hh ha rfl (by rw [hl, hv])) hv' h
theorem get_meth {pl : Sem Bool} {Q : Value × List Value → Shared → Prop} (X : K.In s.heap) (I : ObjM s.heap x dx C mA) (hg : PySem.W.plainGet K C name = true)
    (hf : PySem.W.findIn K (.ref C) name = some (some (.ref f))) (ht : PySem.W.isFn K (.ref f) = true) (hv : mA name = none) (h : Q (.ref f, [.ref x]) s) :
    wpAny (model prog w) A (getMethod (.ref x) name pl) Q E s := by
  obtain ⟨od, J, hl⟩ := I.look
  exact PySem.W.method_fn X J (PySem.W.plainGet_of hg).1 (PySem.W.plainGet_of hg).2 hf (beq_iff_eq.mp ht) (by show (PySem.W.lookIn name od).map (·.isSome) = some false; rw [hl, hv]; rfl) h
theorem set_map {ns : List Str} {Q : Unit → Shared → Prop} (X : K.In s.heap) (I : ObjM s.heap x dx C mA)
    (hs : PySem.W.findIn K (.ref C) "__setattr__" = some (some (.builtin "object.__setattr__"))) (hp : PySem.W.plainOver K C = true) (ht : PySem.W.takerIn K C name = some none) (hh : PySem.W.hasDictIn K C = true)
    (hw : PySem.Within mA ns) (hsz : ns.length ≤ sizeLine)
    (h : ∀ h', ObjM h' x dx C (fun y => if y = name then some v else mA y) → Heap.SameBut dx s.heap h' → Q () { s with heap := h', toks := s.toks + 2 }) :
    wpAny (model prog w) A (setAttr (.ref x) name v) Q E s := by
  obtain ⟨od, J, hl⟩ := I.look
  refine PySem.W.set_plain X J hs (PySem.W.osa_open (s := { s with toks := s.toks + 1 }) (r := none) X J hp ht fun b => ?_)
  obtain ⟨cd, hc, hd'⟩ := PySem.W.any_some hh
  have hx : s.heap.get? x = some ⟨.ref C, some dx, .plain, #[]⟩ := I.obj
  refine wpAny_bind (wpAny_pure (wpAny_bind (wpAny_bind (wpAny_loadPart hx (wpAny_bind (PySem.W.Looks.here (s := { s with toks := s.toks + 1 }) (PySem.W.looks_clsIn X hc) ?_))))))
  rw [hd']
  refine wpAny_pure (a := some dx) (wpAny_bind (wpAny_pure (wpAny_bind ?_)))
  refine wpAny_nsSet1 (s := { s with toks := s.toks + 1 }) I.ns fun h' hn2 hs2 => ?_
  obtain ⟨oD, esD, epD, hoD, hdD, hcD⟩ := hn2.count (PySem.Within.cons name v hw)
  refine wpAny_bind (wpAny_lookBehind hoD (by rw [hdD]; exact pastItsLine_dict (Nat.le_trans hcD (by rw [List.length_cons]; omega))) ?_)
  exact wpAny_pure (h _ ⟨(hs2.2 _ (Ne.symm I.ne)).trans I.obj, hn2, I.ne⟩ hs2)
theorem make_map {R : Result → Shared → Prop} {vs : List Value} {kw : List (Str × Value)} (X : K.In s.heap) (hm : PySem.W.makesIn K C = true)
    (hi : PySem.W.findIn K (.ref C) "__init__" = some (some (.ref f))) (hf : PySem.W.typeIn K (.ref f) = some (.type "function"))
    (h : codeAny (model prog w) (A.under (.builtin "type.__call__" ⟨.ref C :: vs, kw⟩)) (.call (.ref f) ⟨.ref (s.heap.objs.size + 1) :: vs, kw⟩) (PySem.W.InitBack (s.heap.objs.size + 1) R)
      { s with heap := (s.heap.push PySem.W.emptyDict).push (PySem.W.instObj C s.heap.objs.size) }) :
    codeAny (model prog w) A (.call (.ref C) ⟨vs, kw⟩) R s := by
  obtain ⟨hh, g, d, t, os⟩ := s
  exact PySem.W.make_core (PySem.W.makes_of X hm) (PySem.W.looks_findIn X hi) (fun self => PySem.W.bind_fn X self hf) (.inl rfl) h
end
def putF (f : Str) (v : V) : List (Str × V) → List (Str × V)
  | [] => [(f, v)]
  | (g, x) :: r => if g = f then (g, v) :: r else (g, x) :: putF f v r
theorem lookup_putF (f g : Str) (v : V) : ∀ fs : List (Str × V), (putF f v fs).lookup g = if g = f then some v else fs.lookup g
  | [] => by
    show List.lookup g [(f, v)] = _
    by_cases h : g = f
    · have hb : (g == f) = true := beq_iff_eq.mpr h
      simp only [List.lookup, hb, if_pos h]
    · have hb : (g == f) = false := beq_eq_false_iff_ne.mpr h
      simp only [List.lookup, hb, if_neg h]
  | (k, x) :: r => by
    have ih := lookup_putF f g v r
    rw [show putF f v ((k, x) :: r) = (if k = f then (k, v) :: r else (k, x) :: putF f v r) from rfl]
    by_cases hk : k = f
    · rw [if_pos hk]
      by_cases h : g = k
      · have hb : (g == k) = true := beq_iff_eq.mpr h
        simp only [List.lookup, hb, if_pos (h.trans hk)]
      · have hb : (g == k) = false := beq_eq_false_iff_ne.mpr h
        simp only [List.lookup, hb, if_neg (fun e : g = f => h (e.trans hk.symm))]
    · rw [if_neg hk]
      by_cases h : g = k
      · have hb : (g == k) = true := beq_iff_eq.mpr h
        simp only [List.lookup, hb, if_neg (fun e : g = f => hk (h.symm.trans e))]
      · have hb : (g == k) = false := beq_eq_false_iff_ne.mpr h
        simp only [List.lookup, hb]
        exact ih
theorem keys_putF (f : Str) (v : V) : ∀ fs : List (Str × V), f ∈ (putF f v fs).map (·.1) ∧ ∀ g, g ∈ fs.map (·.1) → g ∈ (putF f v fs).map (·.1)
  | [] => ⟨by simp [putF], fun g h => by simp at h⟩
  | (k, x) :: r => by
    obtain ⟨i1, i2⟩ := keys_putF f v r
    rw [show putF f v ((k, x) :: r) = (if k = f then (k, v) :: r else (k, x) :: putF f v r) from rfl]
    by_cases hk : k = f
    · rw [if_pos hk]
      subst hk
      exact ⟨by simp, fun g h => by simpa using h⟩
    · rw [if_neg hk]
      refine ⟨?_, fun g h => ?_⟩
      · rw [List.map_cons]
        exact List.mem_cons_of_mem _ i1
      · rw [List.map_cons] at h ⊢
        rcases List.mem_cons.mp h with e | e
        · exact List.mem_cons.mpr (.inl e)
        · exact List.mem_cons_of_mem _ (i2 g e)
theorem length_putF (f : Str) (v : V) : ∀ fs : List (Str × V), (putF f v fs).length ≤ fs.length + 1
  | [] => by simp [putF]
  | (k, x) :: r => by
    have ih := length_putF f v r
    rw [show putF f v ((k, x) :: r) = (if k = f then (k, v) :: r else (k, x) :: putF f v r) from rfl]
    by_cases hk : k = f
    · rw [if_pos hk, List.length_cons, List.length_cons]; omega
    · rw [if_neg hk, List.length_cons, List.length_cons]; omega
theorem RelO.some_of {v : V} {o : Option Value} (r : RelO (some v) o) : ∃ u, o = some u ∧ RelV v u := by
  cases o with
  | none => exact (show False from r).elim
  | some u => exact ⟨u, rfl, r⟩
theorem RelO.none_of {o : Option Value} (r : RelO none o) : o = none := by
  cases o with
  | none => rfl
  | some u => exact (show False from r).elim
theorem handed_of {v : V} {u : Value} (r : RelV v u) : PySem.W.handedIn u = true := by
  cases v with
  | non => cases (show u = Value.none from r); rfl
  | bl b => cases (show u = Value.bool b from r); rfl
  | int i => obtain ⟨t, e⟩ := (show ∃ t, u = Value.int i t from r); cases e; rfl
  | str x => obtain ⟨t, e⟩ := (show ∃ t, u = Value.str x t from r); cases e; rfl
  | byt b => obtain ⟨t, e⟩ := (show ∃ t, u = Value.bytes b t from r); cases e; rfl
  | flt b => obtain ⟨t, e⟩ := (show ∃ t, u = Value.float b t from r); cases e; rfl
  | ref a => cases (show u = Value.ref a from r); rfl
  | ty n => cases (show u = Value.type n from r); rfl
section
variable {P : Program} {w : World} {H H' : Hp} {h h' : Heap} {a C dx : Addr} {fs fs' : List (Str × V)}
theorem ins_get (hok : HOk P w H h) (e : H a = some (.ins C dx fs)) : ∃ mA, ObjM h a dx C mA ∧ (∀ f, RelO (fs.lookup f) (mA f)) ∧ PySem.Within mA (fs.map (·.1)) ∧ fs.length ≤ 1000 ∧ H dx = some (.own a) := by
  obtain ⟨d, z, ne, ob, mA, n, r, q⟩ := (show ObjOk P w H h a (.ins C dx fs) from hok a _ e)
  exact ⟨mA, ⟨ob, n, ne⟩, r, q, z, d⟩
end
structure Cls (K : PySem.W.Frag) (C : Addr) : Prop where
  pg : PySem.W.plainGet K C Str.empty = true
  hd : PySem.W.hasDictIn K C = true
  po : PySem.W.plainOver K C = true
  sa : PySem.W.findIn K (.ref C) "__setattr__" = some (some (.builtin "object.__setattr__"))
theorem Cls.get {K : PySem.W.Frag} {C : Addr} (c : Cls K C) (f : Str) : PySem.W.plainGet K C f = true := c.pg
def NoAttr (K : PySem.W.Frag) (C : Addr) (f : Str) : Prop := PySem.W.findIn K (.ref C) f = some none
theorem NoAttr.taker {K : PySem.W.Frag} {C : Addr} {f : Str} (n : NoAttr K C f) : PySem.W.takerIn K C f = some none := by
  unfold PySem.W.takerIn
  rw [show PySem.W.findIn K (.ref C) f = some none from n]
  rfl
structure Meth (K : PySem.W.Frag) (C : Addr) (m : Str) (f : Addr) : Prop where
  at_ : PySem.W.findIn K (.ref C) m = some (some (.ref f))
  fn : PySem.W.isFn K (.ref f) = true
  kp : PySem.W.keepIn K (.ref f) = true
section
variable {X : Cx} {pins : List (Addr × Obj)} {σ : St} {H : Hp} {s : Shared} {a C dx : Addr} {fs : List (Str × V)} {f : Str} {v : V} {A : Around} {E : Value → Shared → Prop}
theorem getattr_ok {b : Bool} {Q : Value → Shared → Prop} (I : Inv X pins σ H s) (e : H a = some (.ins C dx fs)) (c : Cls X.K C) (n : NoAttr X.K C f) (l : fs.lookup f = some v)
    (h : ∀ u s', Inv X pins σ H s' → RelV v u → Q u s') : wpAny (model X.prog X.w) A (getAttr (.ref a) f b) Q E s := by
  obtain ⟨mA, O, r, _, _, _⟩ := ins_get I.hok e
  obtain ⟨u, hu, ru⟩ := RelO.some_of (v := v) (o := mA f) (by rw [← l]; exact r f)
  exact get_map I.kIn O (c.get f) c.hd n hu (handed_of ru) (h u _ (I.tok _) ru)
theorem getmeth_ok {m : Str} {g : Addr} {pl : Sem Bool} {Q : Value × List Value → Shared → Prop} (I : Inv X pins σ H s) (e : H a = some (.ins C dx fs)) (c : Cls X.K C) (k : Meth X.K C m g) (l : fs.lookup m = none)
    (h : Q (.ref g, [.ref a]) s) : wpAny (model X.prog X.w) A (getMethod (.ref a) m pl) Q E s := by
  obtain ⟨mA, O, r, _, _, _⟩ := ins_get I.hok e
  have hn : mA m = none := RelO.none_of (by rw [← l]; exact r m)
  exact get_meth I.kIn O (c.get m) k.at_ k.fn hn h
theorem setattr_ok {y : V} {u : Value} {Q : Unit → Shared → Prop} (I : Inv X pins σ H s) (e : H a = some (.ins C dx fs)) (c : Cls X.K C) (n : NoAttr X.K C f) (hl : fs.length < 1000) (ry : RelV y u)
    (h : ∀ s', Inv X pins σ (upd H a (.ins C dx (putF f y fs))) s' → Q () s') : wpAny (model X.prog X.w) A (setAttr (.ref a) f u) Q E s := by
  obtain ⟨mA, O, r, wi, _, ho⟩ := ins_get I.hok e
  have hz : (fs.map (·.1)).length ≤ sizeLine := by rw [List.length_map, sizeLine_eq]; omega
  refine set_map I.kIn O c.sa c.po n.taker c.hd wi hz fun h' O' sb => h _ ?_
  have hd : ∃ o, h'.get? dx = some o := let ⟨o, _, _, e', _⟩ := O'.ns; ⟨o, e'⟩
  refine I.write (x := a) (e := dx) (by rw [e]; exact True.intro) (.inr ho) (fun b q hb z => (sb.2 b hb).trans z) hd ?_
  refine ⟨by rw [upd_ne O.ne]; exact ho, ?_, O.ne, O'.obj, _, O'.ns, fun g => ?_, fun g hg => ?_⟩
  · have := length_putF f y fs; omega
  · show RelO ((putF f y fs).lookup g) (if g = f then some u else mA g)
    rw [lookup_putF]
    by_cases q : g = f
    · rw [if_pos q, if_pos q]; exact ry
    · rw [if_neg q, if_neg q]; exact r g
  · by_cases q : g = f
    · rw [q]; exact (keys_putF f y fs).1
    · refine (keys_putF f y fs).2 g (wi g fun z => hg ?_)
      show (if g = f then some u else mA g) = none
      rw [if_neg q]; exact z
theorem Inv.made (I : Inv X pins σ H s) : Inv X pins σ (upd (upd H s.heap.objs.size (.own (s.heap.objs.size + 1))) (s.heap.objs.size + 1) (.ins C s.heap.objs.size []))
    { s with heap := (s.heap.push PySem.W.emptyDict).push (PySem.W.instObj C s.heap.objs.size) } := by
  have e1 : (s.heap.push PySem.W.emptyDict).get? s.heap.objs.size = some PySem.W.emptyDict := Heap.get?_push_size s.heap rfl
  have e2 : ((s.heap.push PySem.W.emptyDict).push (PySem.W.instObj C s.heap.objs.size)).get? (s.heap.objs.size + 1) = some (PySem.W.instObj C s.heap.objs.size) := by
    have := Heap.get?_push_size (s.heap.push PySem.W.emptyDict) (o := PySem.W.instObj C s.heap.objs.size) rfl
    rwa [Heap.size_push] at this
  have e3 : (s.heap.push PySem.W.emptyDict).Ns s.heap.objs.size (fun _ => none) := ⟨PySem.W.emptyDict, #[], _, e1, rfl, (fun e he => absurd he (by simp)), fun _ => rfl⟩
  have I1 := I.laid (a := s.heap.objs.size) (o := .own (s.heap.objs.size + 1)) (h' := s.heap.push PySem.W.emptyDict) (t' := s.toks) (fun b u q => Heap.get?_push_of_some _ q) (Nat.le_refl _) ⟨_, e1⟩
  refine I1.laid (a := s.heap.objs.size + 1) (o := .ins C s.heap.objs.size []) (t' := s.toks) (fun b u q => Heap.get?_push_of_some _ q) (Nat.le_of_eq (Heap.size_push _ _)) ?_
  have ne : s.heap.objs.size ≠ s.heap.objs.size + 1 := Nat.ne_of_lt (Nat.lt_succ_self _)
  refine ⟨by rw [upd_ne ne, upd_same], Nat.zero_le _, ne, e2, fun _ => none, (Heap.Ns1.of_empty e3).at fun o q => Heap.get?_push_of_some _ q, fun _ => True.intro, fun y hy => absurd rfl hy⟩
theorem attr_of {prog : Program} {w : World} {env : Env} {e : Expr} {f : Str} {pos : Pos} {s : Shared} {Q : Value → Shared → Prop} (hb : attributeBase e f env (eval e env) = eval e env)
    (h : wpAny (model prog w) A (eval e env) (fun o s₁ => wpAny (model prog w) A (getAttr o f true) Q E s₁) E s) : wpAny (model prog w) A (eval (.Attribute e f pos) env) Q E s :=
  Attribute_any_ h (by rw [arm_eval_Attribute, hb])
end
def tFld (K : PySem.W.Frag) (ta : TE) (f : Str) : TE := fun σ H Q => ta σ H fun x H1 => ∃ a C dx fs v, x = .ref a ∧ H1 a = some (.ins C dx fs) ∧ Cls K C ∧ NoAttr K C f ∧ fs.lookup f = some v ∧ Q v H1
def sFld (K : PySem.W.Frag) (ta tv : TE) (f : Str) : TS := fun D σ H => tv σ H fun y H1 => ta σ H1 fun x H2 => ∃ a C dx fs, x = .ref a ∧ H2 a = some (.ins C dx fs) ∧ Cls K C ∧ NoAttr K C f ∧ fs.length < 1000 ∧
  D.nx σ (upd H2 a (.ins C dx (putF f y fs)))
section
variable {X : Cx} {o e value : Expr} {f : Str} {pos pos' tpos : Pos} {ta tv : TE}
theorem pe_fld (he : PE X e ta) (hb : attributeBase e f X.env (eval e X.env) = eval e X.env) : PE X (.Attribute e f pos) (tFld X.K ta f) := by
  intro pins s σ H Q I h
  refine attr_of hb (thn (he pins s σ H _ I h) fun u s1 ⟨x, H1, I1, rx, a, C, dx, fs, v, ex, ea, c, n, l, q⟩ => ?_)
  subst ex
  obtain rfl : u = Value.ref a := rx
  exact getattr_ok I1 ea c n l fun u' s2 I2 ru => ⟨v, H1, I2, ru, q⟩
theorem ps_fld (ha : PE X o ta) (hv : PE X value tv) (hs : swapsWith value (some (.Attribute o f pos')) pos.line X.env = pure false) : PS X (.Assign [.Attribute o f pos'] value pos) (sFld X.K ta tv f) := by
  intro pins s σ H D I h
  refine plainObj_wpAny_Assign_Attribute (thn (hv pins s σ H _ I h) fun u s1 ⟨y, H1, I1, ry, q⟩ => thn (ha pins s1 σ H1 _ I1 q) fun ov s2 ⟨x, H2, I2, rx, a, C, dx, fs, ex, ea, c, n, l, q2⟩ => ?_) hs
  subst ex
  obtain rfl : ov = Value.ref a := rx
  exact setattr_ok I2 ea c n l ry fun s3 I3 => ⟨σ, _, I3, q2⟩
end
section
variable {X : Cx} {pins : List (Addr × Obj)} {σ : St} {H : Hp} {s : Shared} {A : Around} {E : Value → Shared → Prop} {Q : Value → Shared → Prop} {c : Value} {b : Bool}
end
end L2
namespace L2
open PySem PySem.Spec PyProof.Rows
structure Room (k : Nat) (A : Around) : Prop where
  hd : A.handled = none
  dp : A.depth + 3 * k + 5 < recursionLimit
  un : A.units + 16 * k + 200 < cLine
theorem Room.mono {j k : Nat} {A : Around} (r : Room k A) (h : j ≤ k) : Room j A := ⟨r.hd, by have := r.dp; omega, by have := r.un; omega⟩
theorem Room.deeper {k : Nat} {A : Around} (r : Room (k + 1) A) (env : Env) : Room k (A.deeper env) :=
  ⟨r.hd, by have := r.dp; show A.depth + 1 + 3 * k + 5 < _; omega, by have := r.un; show A.units + 3 + 16 * k + 200 < _; omega⟩
theorem Room.in1 {k : Nat} {A : Around} (r : Room (k + 1) A) : Room k A.in1 :=
  ⟨r.hd, by have := r.dp; show A.depth + 3 * k + 5 < _; omega, by have := r.un; show A.units + 1 + 16 * k + 200 < _; omega⟩
theorem make_depth {A : Around} {C : Addr} {us : List Value} {kw : List (Str × Value)} : (A.under (.builtin "type.__call__" ⟨.ref C :: us, kw⟩)).depth = A.depth + 1 := by
  first | rfl | simp [Around.under, Code.weight, Code.isCreation, Code.isGuard, Code.isCaller, Code.frames, Code.isFrame, guardIds]
theorem make_units {A : Around} {C : Addr} {us : List Value} {kw : List (Str × Value)} : (A.under (.builtin "type.__call__" ⟨.ref C :: us, kw⟩)).units = A.units + 1 := by
  first | rfl | simp [Around.under, Code.cUnits, Code.frames, Code.isFrame]
theorem Room.make {k : Nat} {A : Around} (r : Room (k + 1) A) (C : Addr) (us : List Value) (kw : List (Str × Value)) : Room k (A.under (.builtin "type.__call__" ⟨.ref C :: us, kw⟩)) :=
  ⟨r.hd, by have := r.dp; rw [make_depth]; omega, by have := r.un; rw [make_units]; omega⟩
theorem Room.depth {k : Nat} {A : Around} (r : Room k A) : A.depth < recursionLimit := by have := r.dp; omega
theorem Room.units {k : Nat} {A : Around} (r : Room k A) : A.units + 64 < cLine := by have := r.un; omega
theorem Room.units0 {k : Nat} {A : Around} (r : Room k A) : A.units < cLine := by have := r.un; omega
def tNil : TA := fun _ H Q => Q [] H
def tCons (ta : TE) (tr : TA) : TA := fun σ H Q => ta σ H fun x H1 => tr σ H1 fun xs H2 => Q (x :: xs) H2
section
variable {X : Cx} {e : Expr} {es : List Expr} {te : TE} {t : TA} {pos : Pos}
theorem pa_nil : PA X [] tNil := fun _ _ _ _ H Q I h => Calls.spliced_nil ⟨[], H, I, .nil, h⟩
theorem pa_cons (ha : PE X e te) (hr : PA X es t) (hs : starEach (e :: es) X.env = (false, eval e X.env) :: starEach es X.env := by rfl) : PA X (e :: es) (tCons te t) := by
  intro pos pins s σ H Q I h
  rw [hs]
  show wpAny _ _ (spliced ((false, eval e X.env) :: backTo pos (starEach es X.env))) _ _ s
  refine Calls.spliced_cons (thn (ha pins s σ H _ I h) fun u s1 ⟨x, H1, I1, r1, q1⟩ => ?_)
  exact thn (hr pos pins s1 σ H1 _ I1 q1) fun us s2 ⟨xs, H2, I2, r2, q2⟩ => ⟨x :: xs, H2, I2, .cons r1 r2, q2⟩
def tTup (t : TA) : TE := fun σ H Q => t σ H fun xs H1 => xs.length ≤ sizeLine ∧ ∀ p, H1 p = none → Q (.ref p) (upd H1 p (.tup xs))
def tLst (t : TA) : TE := fun σ H Q => t σ H fun xs H1 => xs.length ≤ sizeLine ∧ ∀ p, H1 p = none → Q (.ref p) (upd H1 p (.lst xs))
theorem pe_tup {x1} (h : PA X es t) : PE X (.Tuple es x1 pos) (tTup t) := by
  intro pins s σ H Q I hq
  refine wpAny_Tuple_spliced (thn (h pos pins s σ H _ I hq) fun us s1 ⟨xs, H1, I1, r, z, q⟩ => ⟨by rw [← r.length]; exact z, ?_⟩)
  have hf : H1 s1.heap.objs.size = none := I1.hok.fresh (Nat.le_refl _)
  refine ⟨.ref s1.heap.objs.size, upd H1 s1.heap.objs.size (.tup xs), I1.laid (t' := s1.toks) (fun b u e => Heap.get?_push_of_some _ e) (Nat.le_refl _) ?_, rfl, q _ hf⟩
  exact ⟨z, us, r, ⟨_, Heap.get?_push_size _ rfl, rfl, _, rfl⟩⟩
theorem pe_lst (h : PA X es t) : PE X (.List es pos) (tLst t) := by
  intro pins s σ H Q I hq
  refine wpAny_List_spliced (thn (h pos pins s σ H _ I hq) fun us s1 ⟨xs, H1, I1, r, z, q⟩ => ⟨by rw [← r.length]; exact z, ?_⟩)
  have hf : H1 s1.heap.objs.size = none := I1.hok.fresh (Nat.le_refl _)
  refine ⟨.ref s1.heap.objs.size, upd H1 s1.heap.objs.size (.lst xs), I1.laid (t' := s1.toks) (fun b u e => Heap.get?_push_of_some _ e) (Nat.le_refl _) ?_, rfl, q _ hf⟩
  exact ⟨z, us, 0, r, Heap.get?_push_size _ rfl⟩
end
abbrev Sp := List V → Hp → VK → XK → Prop
abbrev CXT := List Env → Hp → Shared → XK → Value → Shared → Prop
structure Env0 (P : Program) (w : World) (K : PySem.W.Frag) (mg : Str → Option Value) (base : Heap) (A : Around) (outer : List Env) (s : Shared) (H : Hp) : Prop where
  frames : A.frames = some outer
  mod : Mod K mg base
  bs : ∀ b o, base.get? b = some o → s.heap.get? b = some o ∧ H b = none
  bsz : base.objs.size ≤ s.heap.objs.size
  funs : s.heap.FunFrames base outer
  frf : ∀ b ∈ frs outer, H b = none
  hok : HOk P w H s.heap
  bare : AllBare s.gens
def CE (outer : List Env) (P : Program) (w : World) (H : Hp) (s : Shared) (Q : VK) (u : Value) (s' : Shared) : Prop :=
  ∃ v H', s'.os = s.os ∧ AllBare s'.gens ∧ Un (frs outer) [] H H' s.heap s'.heap ∧ HOk P w H' s'.heap ∧ RelV v u ∧ Q v H'
def CR (CX : CXT) (outer : List Env) (P : Program) (w : World) (H : Hp) (s : Shared) (Q : VK) (E : XK) (r : Result) (s' : Shared) : Prop :=
  match r with
  | .ok (.ret u) => CE outer P w H s Q u s'
  | .ok _ => False
  | .error e => CX outer H s E e s'
structure FnOk (P : Program) (w : World) (K : PySem.W.Frag) (mg : Str → Option Value) (base : Heap) (CX : CXT) (k : Nat) (f : Addr) (fd : FuncData) (ps : List Str) (sp : Sp) : Prop where
  len : ∀ vs H Q E, sp vs H Q E → vs.length = ps.length
  run : ∀ (A : Around) (outer : List Env) (s : Shared) (H : Hp) (args : Args) (us : List Value) (vs : List V) (Q : VK) (E : XK), Room k A → Env0 P w K mg base A outer s H → BindsTo s fd args (ps.zip us) → Vals vs us → sp vs H Q E →
    codeAny (model P w) A (.call (.ref f) args) (CR CX outer P w H s Q E) s
theorem FnOk.mono {P : Program} {w : World} {K : PySem.W.Frag} {mg : Str → Option Value} {base : Heap} {CX : CXT} {j k : Nat} {f : Addr} {fd : FuncData} {ps : List Str} {sp : Sp} (F : FnOk P w K mg base CX j f fd ps sp) (h : j ≤ k) :
    FnOk P w K mg base CX k f fd ps sp := ⟨F.len, fun A outer s H args us vs Q E hr => F.run A outer s H args us vs Q E (hr.mono h)⟩
theorem FnOk.imp {P : Program} {w : World} {K : PySem.W.Frag} {mg : Str → Option Value} {base : Heap} {CX : CXT} {k : Nat} {f : Addr} {fd : FuncData} {ps : List Str} {sp sp' : Sp} (F : FnOk P w K mg base CX k f fd ps sp)
    (h : ∀ vs H Q E, sp' vs H Q E → sp vs H Q E) : FnOk P w K mg base CX k f fd ps sp' :=
  ⟨fun vs H Q E q => F.len vs H Q E (h _ _ _ _ q), fun A outer s H args us vs Q E hr he hb hv hs => F.run A outer s H args us vs Q E hr he hb hv (h _ _ _ _ hs)⟩
theorem Env0.make {P : Program} {w : World} {K : PySem.W.Frag} {mg : Str → Option Value} {base : Heap} {A : Around} {outer : List Env} {s : Shared} {H : Hp} (e : Env0 P w K mg base A outer s H) (C : Addr) (us : List Value) (kw : List (Str × Value)) :
    Env0 P w K mg base (A.under (.builtin "type.__call__" ⟨.ref C :: us, kw⟩)) outer s H := ⟨by first | exact e.frames | (simpa [Around.under, Code.envs, Code.isFrame, pushEnvs] using e.frames), e.mod, e.bs, e.bsz, e.funs, e.frf, e.hok, e.bare⟩
theorem Env0.in1 {P : Program} {w : World} {K : PySem.W.Frag} {mg : Str → Option Value} {base : Heap} {A : Around} {outer : List Env} {s : Shared} {H : Hp} (e : Env0 P w K mg base A outer s H) :
    Env0 P w K mg base A.in1 outer s H := ⟨e.frames, e.mod, e.bs, e.bsz, e.funs, e.frf, e.hok, e.bare⟩
section
variable {X : Cx} {pins : List (Addr × Obj)} {σ : St} {H : Hp} {s s' : Shared}
theorem Inv.env0 (I : Inv X pins σ H s) : Env0 X.prog X.w X.K X.mg X.base X.A X.stack s H :=
  ⟨I.ok.frames, I.ok.mod, I.bs, Nat.le_trans I.ok.bsz I.sz, I.stack, I.stkFree, I.hok, I.bare⟩
theorem Inv.after {Q : VK} {u : Value} (I : Inv X pins σ H s) (h : CE X.stack X.prog X.w H s Q u s') : EP X pins σ Q u s' := by
  obtain ⟨v, H', os, bare, un, hok, r, q⟩ := h
  obtain ⟨hh, g, d, t, os'⟩ := s'
  obtain rfl : os' = s.os := os
  exact ⟨v, H', I.call (h' := hh) (g' := g) (d' := d) (t' := t) (ch := []) un hok bare (fun b z => absurd z (by simp)), r, q⟩
end
def tCall (sp : Sp) (dvs : List V) (E : XK) (t : TA) : TE := fun σ H Q => t σ H fun vs H1 => sp (vs ++ dvs) H1 Q E
def tMeth (C : Addr) (m : Str) (sp : Sp) (dvs : List V) (E : XK) (ta : TE) (t : TA) : TE := fun σ H Q => ta σ H fun x H1 => ∃ a dx fs, x = .ref a ∧ H1 a = some (.ins C dx fs) ∧ fs.lookup m = none ∧
  t σ H1 fun vs H2 => sp (x :: (vs ++ dvs)) H2 Q E
def tMake (C : Addr) (sp : Sp) (dvs : List V) (E : XK) (t : TA) : TE := fun σ H Q => t σ H fun vs H1 => ∀ x dx, H1 x = none → H1 dx = none → dx ≠ x →
  sp (.ref x :: (vs ++ dvs)) (upd (upd H1 dx (.own x)) x (.ins C dx [])) (fun v H2 => v = .non ∧ Q (.ref x) H2) E
def Binds (K : PySem.W.Frag) (fd : FuncData) (ps : List Str) (ds : List Value) : Prop :=
  ∀ (s : Shared) (us : List Value), K.In s.heap → (us ++ ds).length = ps.length → BindsTo s fd ⟨us, []⟩ (ps.zip (us ++ ds))
theorem Binds.all {K : PySem.W.Frag} {fd : FuncData} {ps : List Str} (h : ∀ us : List Value, us.length = ps.length → bindArgs fd ⟨us, []⟩ = pure (ps.zip us)) : Binds K fd ps [] := fun s us _ hl => by
  rw [List.append_nil] at hl ⊢
  exact .of_eq (h us hl)
def Passes (CX : CXT) (X : Cx) (E : XK) : Prop := ∀ (pins : List (Addr × Obj)) (σ : St) (H : Hp) (s : Shared) (e : Value) (s' : Shared), Inv X pins σ H s → CX X.stack H s E e s' → X.xe e s'
section
variable {X : Cx} {CX : CXT} {k : Nat} {f C : Addr} {fd : FuncData} {ps : List Str} {sp : Sp} {dvs : List V} {ds : List Value} {E : XK} {x m : Str} {p pos apos : Pos} {e o : Expr} {es : List Expr} {ta : TE} {t : TA}
theorem run_fn {pins : List (Addr × Obj)} {σ : St} {H : Hp} {s : Shared} {Q : VK} {us : List Value} {vs : List V} (F : FnOk X.prog X.w X.K X.mg X.base CX k f fd ps sp) (hr : Room k X.A) (hb : Binds X.K fd ps ds) (hd : Vals dvs ds) (hx : Passes CX X E)
    (I : Inv X pins σ H s) (r : Vals vs us) (h : sp (vs ++ dvs) H Q E) : wpAny (model X.prog X.w) X.A (call (.ref f) us) (EP X pins σ Q) X.xe s := by
  have r2 : Vals (vs ++ dvs) (us ++ ds) := r.append hd
  have hl : (us ++ ds).length = ps.length := by rw [← r2.length]; exact F.len _ _ _ _ h
  refine wpAny_call (codeAny_mono (F.run X.A X.stack s H ⟨us, []⟩ (us ++ ds) (vs ++ dvs) Q E hr I.env0 (hb s us I.kIn hl) r2 h) fun r s' hq => ?_)
  cases r with
  | error e => exact hx pins σ H s e s' I hq
  | ok fl =>
    cases fl with
    | ret u => exact I.after hq
    | next => exact False.elim hq
    | brk => exact False.elim hq
    | cont => exact False.elim hq
theorem pe_call (F : FnOk X.prog X.w X.K X.mg X.base CX k f fd ps sp) (hr : Room k X.A) (hg : Gl X x) (hm : X.mg x = some (.ref f)) (hk : PySem.W.keepIn X.K (.ref f) = true) (hb : Binds X.K fd ps ds) (hd : Vals dvs ds) (hx : Passes CX X E)
    (ha : PA X (e :: es) t) (hdb : (x == ("__debug__" : Str)) = false := by decide) (he : starEach (e :: es) X.env = (false, eval e X.env) :: starEach es X.env := by rfl) (hpl : (backTo pos (starEach es X.env)).any (·.1) = false := by rfl) :
    PE X (.Call (.Name x p) (e :: es) [] pos) (tCall sp dvs E t) := by
  intro pins s σ H Q I h
  refine wpAny_Call_Name_kw (ld_glob I hg hm ?_ hdb)
  refine PySem.W.callWith_K (h₀ := X.base) I.ok.mod.kin hk (thn (ha pos pins s σ H _ I h) fun us s1 ⟨vs, H1, I1, r, q⟩ => ⟨I1.kIn, ?_⟩) he hpl
  exact run_fn F hr hb hd hx I1 r q
theorem pe_meth {pl : Sem Bool} (he : PE X o ta) (c : Cls X.K C) (hm : Meth X.K C m f) (F : FnOk X.prog X.w X.K X.mg X.base CX k f fd ps sp) (hr : Room k X.A) (hb : Binds X.K fd ps ds) (hd : Vals dvs ds) (hx : Passes CX X E) (ha : PA X (e :: es) t)
    (hst : starEach (e :: es) X.env = (false, eval e X.env) :: starEach es X.env := by rfl) (hpl : (backTo pos (starEach es X.env)).any (·.1) = false := by rfl)
    (ht : eval (.Call (.Attribute o m apos) (e :: es) [] pos) X.env = (do
      let ov ← eval o X.env
      standAt apos.atName
      let (f, first) ← holding [ov] (getMethod ov m pl)
      callWith pos f first (backTo pos (starEach (e :: es) X.env)) (backToKw pos (keywordEach [] X.env))) := by rfl) :
    PE X (.Call (.Attribute o m apos) (e :: es) [] pos) (tMeth C m sp dvs E ta t) := by
  intro pins s σ H Q I h
  refine PySem.W.methodCall_KW (pl := pl) (thn (he pins s σ H _ I h) fun u s1 ⟨x, H1, I1, rx, a, dx, fs, ex, ea, l, q⟩ => ?_) ht
  subst ex
  obtain rfl : u = Value.ref a := rx
  refine getmeth_ok I1 ea c hm l ?_
  refine PySem.W.callWith_K (first := [.ref a]) (h₀ := X.base) I.ok.mod.kin hm.kp (thn (ha pos pins s1 σ H1 _ I1 q) fun us s2 ⟨vs, H2, I2, r, q2⟩ => ⟨I2.kIn, ?_⟩) hst hpl
  exact run_fn (us := .ref a :: us) (vs := .ref a :: vs) F hr hb hd hx I2 (.cons rfl r) q2
theorem pe_meth0 {pl : Sem Bool} (he : PE X o ta) (c : Cls X.K C) (hm : Meth X.K C m f) (F : FnOk X.prog X.w X.K X.mg X.base CX k f fd ps sp) (hr : Room k X.A) (hb : Binds X.K fd ps ds) (hd : Vals dvs ds) (hx : Passes CX X E)
    (ht : eval (.Call (.Attribute o m apos) [] [] pos) X.env = (do
      let ov ← eval o X.env
      standAt apos.atName
      let (f, first) ← holding [ov] (getMethod ov m pl)
      callWith pos f first (backTo pos (starEach [] X.env)) (backToKw pos (keywordEach [] X.env))) := by rfl) :
    PE X (.Call (.Attribute o m apos) [] [] pos) (tMeth C m sp dvs E ta tNil) := by
  intro pins s σ H Q I h
  refine PySem.W.methodCall_KW (pl := pl) (thn (he pins s σ H _ I h) fun u s1 ⟨x, H1, I1, rx, a, dx, fs, ex, ea, l, q⟩ => ?_) ht
  subst ex
  obtain rfl : u = Value.ref a := rx
  refine getmeth_ok I1 ea c hm l ?_
  exact PySem.W.callWith_K0 (first := [.ref a]) I1.kIn hm.kp (run_fn (us := [.ref a]) (vs := [.ref a]) F hr hb hd hx I1 (.cons rfl .nil) q)
structure Mk (K : PySem.W.Frag) (C f : Addr) : Prop where
  makes : PySem.W.makesIn K C = true
  init : PySem.W.findIn K (.ref C) "__init__" = some (some (.ref f))
  fn : PySem.W.isFn K (.ref f) = true
  kp : PySem.W.keepIn K (.ref C) = true
theorem run_make {pins : List (Addr × Obj)} {σ : St} {H : Hp} {s : Shared} {Q : VK} {us : List Value} {vs : List V} (M : Mk X.K C f) (F : FnOk X.prog X.w X.K X.mg X.base CX k f fd ps sp) (hr : Room (k + 1) X.A) (hb : Binds X.K fd ps ds) (hd : Vals dvs ds)
    (hx : Passes CX X E) (I : Inv X pins σ H s) (r : Vals vs us)
    (h : ∀ x dx, H x = none → H dx = none → dx ≠ x → sp (.ref x :: (vs ++ dvs)) (upd (upd H dx (.own x)) x (.ins C dx [])) (fun v H2 => v = .non ∧ Q (.ref x) H2) E) :
    wpAny (model X.prog X.w) X.A (call (.ref C) us) (EP X pins σ Q) X.xe s := by
  have hq := h (s.heap.objs.size + 1) s.heap.objs.size (I.hok.fresh (Nat.le_succ _)) (I.hok.fresh (Nat.le_refl _)) (Nat.ne_of_lt (Nat.lt_succ_self _))
  have I2 := Inv.made (C := C) I
  have r2 : Vals (V.ref (s.heap.objs.size + 1) :: (vs ++ dvs)) (Value.ref (s.heap.objs.size + 1) :: (us ++ ds)) := .cons rfl (r.append hd)
  have hl : (Value.ref (s.heap.objs.size + 1) :: us ++ ds).length = ps.length := by
    have e := r2.length
    rw [F.len _ _ _ _ hq] at e
    exact e.symm
  refine wpAny_call (make_map (f := f) I.kIn M.makes M.init (beq_iff_eq.mp M.fn) (codeAny_mono (F.run _ X.stack _ _ ⟨Value.ref (s.heap.objs.size + 1) :: us, []⟩ (Value.ref (s.heap.objs.size + 1) :: (us ++ ds)) _ _ E (hr.make C us [])
    (I2.env0.make C us []) (hb _ (Value.ref (s.heap.objs.size + 1) :: us) I2.kIn hl) r2 hq) fun r s' hq' => ?_))
  cases r with
  | error e => exact hx pins σ _ _ e s' I2 hq'
  | ok fl =>
    cases fl with
    | ret u =>
      obtain ⟨v, H', I3, rv, ev, q3⟩ := I2.after hq'
      subst ev
      exact ⟨rv, ⟨V.ref (s.heap.objs.size + 1), H', I3, rfl, q3⟩⟩
    | next => exact False.elim hq'
    | brk => exact False.elim hq'
    | cont => exact False.elim hq'
theorem pe_make (M : Mk X.K C f) (F : FnOk X.prog X.w X.K X.mg X.base CX k f fd ps sp) (hr : Room (k + 1) X.A) (hg : Gl X x) (hm : X.mg x = some (.ref C)) (hb : Binds X.K fd ps ds) (hd : Vals dvs ds) (hx : Passes CX X E)
    (ha : PA X (e :: es) t) (hdb : (x == ("__debug__" : Str)) = false := by decide) (he : starEach (e :: es) X.env = (false, eval e X.env) :: starEach es X.env := by rfl) (hpl : (backTo pos (starEach es X.env)).any (·.1) = false := by rfl) :
    PE X (.Call (.Name x p) (e :: es) [] pos) (tMake C sp dvs E t) := by
  intro pins s σ H Q I h
  refine wpAny_Call_Name_kw (ld_glob I hg hm ?_ hdb)
  refine PySem.W.callWith_K (h₀ := X.base) I.ok.mod.kin M.kp (thn (ha pos pins s σ H _ I h) fun us s1 ⟨vs, H1, I1, r, q⟩ => ⟨I1.kIn, ?_⟩) he hpl
  exact run_make M F hr hb hd hx I1 r q
theorem pe_make0 (M : Mk X.K C f) (F : FnOk X.prog X.w X.K X.mg X.base CX k f fd ps sp) (hr : Room (k + 1) X.A) (hg : Gl X x) (hm : X.mg x = some (.ref C)) (hb : Binds X.K fd ps ds) (hd : Vals dvs ds) (hx : Passes CX X E)
    (hdb : (x == ("__debug__" : Str)) = false := by decide) : PE X (.Call (.Name x p) [] [] pos) (tMake C sp dvs E tNil) := by
  intro pins s σ H Q I h
  refine wpAny_Call_Name_kw (ld_glob I hg hm ?_ hdb)
  exact PySem.W.callWith_K0 I.kIn M.kp (run_make (us := []) M F hr hb hd hx I .nil h)
end
def PK (X : Cx) (kws : List Keyword) (t : TA) : Prop :=
  ∀ (pos : Pos) (pins : List (Addr × Obj)) (s : Shared) (σ : St) (H : Hp) (Q : List V → Hp → Prop), Inv X pins σ H s → t σ H Q → wpAny (model X.prog X.w) X.A (evalAll ((backToKw pos (keywordEach kws X.env)).map (·.2))) (AP X pins σ Q) X.xe s
section
variable {X : Cx} {CX : CXT} {k : Nat} {f C : Addr} {fd : FuncData} {ps ks : List Str} {sp : Sp} {E : XK} {x m : Str} {p pos apos kpos : Pos} {e o : Expr} {es : List Expr} {kws : List Keyword} {te ta : TE} {t tk : TA} {nm : Option Str}
theorem pk_nil : PK X [] tNil := fun _ _ _ _ H Q I h => wpAny_evalAll_nil ⟨[], H, I, .nil, h⟩
theorem pk_cons (ha : PE X e te) (hr : PK X kws t) : PK X (⟨nm, e, kpos⟩ :: kws) (tCons te t) := by
  intro pos pins s σ H Q I h
  show wpAny _ _ (evalAll ((do let v ← eval e X.env; standAt pos; pure v) :: (backToKw pos (keywordEach kws X.env)).map (·.2))) _ _ s
  refine wpAny_evalAll_cons (wpAny_bind (thn (ha pins s σ H _ I h) fun u s1 ⟨x, H1, I1, r1, q1⟩ => wpAny_bind (wpAny_standAt (wpAny_pure ?_))))
  exact thn (hr pos pins s1 σ H1 _ I1 q1) fun us s2 ⟨xs, H2, I2, r2, q2⟩ => ⟨x :: xs, H2, I2, .cons r1 r2, q2⟩
variable {g : List Value → List Value → List Value} {gV : List V → List V → List V}
end
structure FnScope (N P : List Str) (sc : Scope) : Prop where
  kind : sc.kind = .function
  co : sc.isCoroutine = false
  gen : sc.isGenerator = false
  nd : N.Nodup
  pre : N.take P.length = P
  par : ∀ x ∈ P, sc.names.lookup x = some .local ∨ sc.names.lookup x = some .cell
  nofree : ∀ y ∈ sc.names, y.2 ≠ .free
theorem bindL_out {kindOf : Str → Option NameKind} {x : Str} : ∀ {binds : List (Str × Value)} {m : Str → Option Value}, (∀ v, (x, v) ∉ binds) → bindL kindOf binds m x = m x
  | [], _, _ => rfl
  | (n, v) :: r, m, h => by
    unfold bindL
    rw [bindL_out fun w hw => h w (List.mem_cons_of_mem _ hw)]
    split
    · have : x ≠ n := by rintro rfl; exact h v List.mem_cons_self
      simp [this]
    · rfl
theorem bindC_out {kindOf : Str → Option NameKind} {x : Str} : ∀ {binds : List (Str × Value)} {m : Str → Option Value}, (∀ v, (x, v) ∉ binds) → bindC kindOf binds m x = m x
  | [], _, _ => rfl
  | (n, v) :: r, m, h => by
    unfold bindC
    rw [bindC_out fun w hw => h w (List.mem_cons_of_mem _ hw)]
    split
    · rfl
    · have : x ≠ n := by rintro rfl; exact h v List.mem_cons_self
      simp [this]
theorem bindL_get {kindOf : Str → Option NameKind} {x : Str} {v : Value} : ∀ {P : List Str} {vs : List Value} {i : Nat} {m : Str → Option Value}, P.Nodup → P[i]? = some x → vs[i]? = some v → kindOf x = some .local →
    bindL kindOf (P.zip vs) m x = some v
  | [], _, _, _, _, h, _, _ => by simp at h
  | _ :: _, [], _, _, _, _, h, _ => by simp at h
  | p :: P, w :: vs, 0, m, nd, h1, h2, hk => by
    simp at h1 h2; subst h1; subst h2
    show bindL kindOf ((p, w) :: P.zip vs) m p = _
    unfold bindL
    rw [bindL_out fun v hv => (List.nodup_cons.mp nd).1 (List.of_mem_zip hv).1, if_pos hk]
    simp
  | p :: P, w :: vs, i + 1, m, nd, h1, h2, hk => by
    show bindL kindOf ((p, w) :: P.zip vs) m x = _
    unfold bindL
    exact bindL_get (i := i) (List.nodup_cons.mp nd).2 (by simpa using h1) (by simpa using h2) hk
theorem bindC_get {kindOf : Str → Option NameKind} {x : Str} {v : Value} : ∀ {P : List Str} {vs : List Value} {i : Nat} {m : Str → Option Value}, P.Nodup → P[i]? = some x → vs[i]? = some v → kindOf x ≠ some .local →
    bindC kindOf (P.zip vs) m x = some v
  | [], _, _, _, _, h, _, _ => by simp at h
  | _ :: _, [], _, _, _, _, h, _ => by simp at h
  | p :: P, w :: vs, 0, m, nd, h1, h2, hk => by
    simp at h1 h2; subst h1; subst h2
    show bindC kindOf ((p, w) :: P.zip vs) m p = _
    unfold bindC
    rw [bindC_out fun v hv => (List.nodup_cons.mp nd).1 (List.of_mem_zip hv).1, if_neg hk]
    simp
  | p :: P, w :: vs, i + 1, m, nd, h1, h2, hk => by
    show bindC kindOf ((p, w) :: P.zip vs) m x = _
    unfold bindC
    exact bindC_get (i := i) (List.nodup_cons.mp nd).2 (by simpa using h1) (by simpa using h2) hk
def start (N : List Str) (vs : List V) : St := vs.map some ++ List.replicate (N.length - vs.length) none
def cxOf (CX : CXT) (P : Program) (w : World) (K : PySem.W.Frag) (mg : Str → Option Value) (base : Heap) (N : List Str) (qual : Str) (scope : Scope) (f : Addr) (cd : Value) (A : Around) (outer : List Env) (s : Shared) (H : Hp) (E : XK) : Cx where
  prog := P
  w := w
  K := K
  mg := mg
  base := base
  A := A.deeper (envOfC qual scope s.heap.objs.size f cd)
  N := N
  s_0 := s
  H_0 := H
  env := envOfC qual scope s.heap.objs.size f cd
  outer := outer
  stack := envOfC qual scope s.heap.objs.size f cd :: outer
  ex := []
  calm := true
  fn := fun _ => true
  pn := []
  xe := fun e s' => wpAny (model P w) (A.deeper (envOfC qual scope s.heap.objs.size f cd)) (leaving (envOfC qual scope s.heap.objs.size f cd) e) (fun _ s'' => CX outer H s E e s'') (fun e' s'' => CX outer H s E e' s'') s'
theorem cell_has {sc : Scope} {n : Nat} {x : Str} (h : sc.names.lookup x = some .cell) : ∃ c, (cellsFrom n sc.names []).lookup x = some c := by
  have q := PySem.W.cellsFrom_some sc.names n [] (.inl h)
  exact Option.isSome_iff_exists.mp q
theorem inv_start {CX : CXT} {P : Program} {w : World} {K : PySem.W.Frag} {mg : Str → Option Value} {base : Heap} {N ps : List Str} {qual : Str} {scope : Scope} {f : Addr} {cd : Value} {A : Around} {outer : List Env} {s s1 : Shared} {H : Hp} {E : XK} {us : List Value} {vs : List V}
    (S : FnScope N ps scope) (hd : A.handled = none) (e0 : Env0 P w K mg base A outer s H) (hl : vs.length = ps.length) (r : Vals vs us)
    (x : InCallC s s.heap.objs.size (bindL (envOfC qual scope s.heap.objs.size f cd).kindOf (ps.zip us) fun _ => none) (cellsFrom (s.heap.objs.size + 1) scope.names []) (bindC (envOfC qual scope s.heap.objs.size f cd).kindOf (ps.zip us) fun _ => none) s1) :
    Inv (cxOf CX P w K mg base N qual scope f cd A outer s H E) [] (start N vs) H s1 := by
  have hpl : ps.length ≤ N.length := by have := congrArg List.length S.pre; rw [List.length_take] at this; omega
  obtain ⟨h1, tk, rfl, hk⟩ := x.done
  have noA : ∀ b : Addr, b ∉ (cxOf CX P w K mg base N qual scope f cd A outer s H E).ex := fun b z => absurd (show b ∈ ([] : List Addr) from z) (by simp)
  refine ⟨⟨e0.mod, S.kind, rfl, rfl, Nat.le_refl _, fun y z c h1 h2 => ?_, fun y hy => ?_, fun y c _ h => ?_, fun _ => hd, Around.frames_deeper e0.frames, .inr ⟨rfl, rfl⟩, fun b z => absurd z (noA b), e0.bs, e0.bsz, fun b _ _ => noA b, fun b z => absurd z (noA b), e0.funs, e0.frf⟩,
    rfl, e0.bare, Un.kept hk, ⟨_, x.toInCall.ns, fun i y v h1 h2 h3 => ?_⟩, fun y c h => ⟨_, x.cell y c h⟩, e0.hok.fresh (Nat.le_refl _), fun y c h => ?_, fun p hp => absurd (show p ∈ ([] : List (Addr × Obj)) from hp) (by simp), e0.hok.kept hk, ?_⟩
  · exact name_of_addr x.apart (PySem.mem_of_lookup h1) (PySem.mem_of_lookup h2)
  · have hy : scope.names.lookup y = some .cell ∨ scope.names.lookup y = some .free := hy
    rcases hy with hy | hy
    · exact cell_has hy
    · exact absurd rfl (S.nofree _ (PySem.mem_of_lookup hy))
  · exact Nat.le_of_lt (x.above y c (PySem.mem_of_lookup h))
  · have hi : i < vs.length := by
      unfold start at h2
      by_cases hi : i < vs.length
      · exact hi
      · rw [List.getElem?_append_right (by simpa using hi)] at h2
        rw [List.getElem?_replicate] at h2
        split at h2 <;> cases h2
    have ha : vs[i]? = some v := by
      unfold start at h2
      rw [List.getElem?_append_left (by simpa using hi), List.getElem?_map] at h2
      cases e : vs[i]? with
      | none => rw [e] at h2; cases h2
      | some a => rw [e] at h2; cases h2; rfl
    obtain ⟨u, hu, rv⟩ := r.get ha
    have hp : ps[i]? = some y := by
      rw [← S.pre, List.getElem?_take_of_lt (by omega)]; exact h1
    have ndP : ps.Nodup := by rw [← S.pre]; exact S.nd.sublist (List.take_sublist _ _)
    refine ⟨u, rv, ?_⟩
    rcases S.par y (List.mem_of_getElem? hp) with k | k
    · exact .inl ⟨k, bindL_get ndP hp hu k⟩
    · obtain ⟨c, e⟩ := cell_has (n := s.heap.objs.size + 1) k
      refine .inr ⟨.inl k, c, e, ?_⟩
      have q := x.cell y c e
      rw [bindC_get ndP hp hu (by show scope.names.lookup y ≠ _; rw [k]; decide)] at q
      exact q
  · exact e0.hok.fresh (Nat.le_of_lt (x.above y c (PySem.mem_of_lookup h)))
  · unfold start
    show _ = N.length
    rw [List.length_append, List.length_map, List.length_replicate]
    omega
theorem fn_of {CX : CXT} {P : Program} {w : World} {K : PySem.W.Frag} {mg : Str → Option Value} {base : Heap} {k : Nat} {f : Addr} {name qual : Str} {params : Arguments} {body : List Stmt} {scope : Scope} {dV kV doc pm cdv ct oc : Value} {an od : Option Addr}
    {osl : Array (Option Value)} {N ps : List Str} {sp : Sp} (lk : K.lookup f = some ⟨oc, od, .func (PySem.W.fnOf name qual params body scope dV kV doc pm an cdv ct), osl⟩) (hcd : PySem.W.codeIn K cdv qual = true) (S : FnScope N ps scope)
    (len : ∀ vs H Q E, sp vs H Q E → vs.length = ps.length)
    (hbody : ∀ (A : Around) (outer : List Env) (s : Shared) (H : Hp) (vs : List V) (Q : VK) (E : XK), Room k (A.deeper (envOfC qual scope s.heap.objs.size f cdv)) → sp vs H Q E →
      ∃ t, PSs (cxOf CX P w K mg base N qual scope f cdv A outer s H E) body t ∧ t { nx := fun _ H' => Q .non H', rt := Q } (start N vs) H) :
    FnOk P w K mg base CX (k + 1) f (PySem.W.fnOf name qual params body scope dV kV doc pm an cdv ct) ps sp := by
  refine ⟨len, fun A outer s H args us vs Q E hr e0 hb r hsp => ?_⟩
  have hl := len _ _ _ _ hsp
  have KX : K.In s.heap := e0.mod.kin.keeps fun b o e => (e0.bs b o e).1
  have lim : s.heap.NoLimit := e0.mod.nolimit.keeps fun b o e => (e0.bs b o e).1
  have hkind : ∀ y ∈ ps.zip us, scope.names.lookup y.1 = some .local ∨ (scope.names.lookup y.1 = some .cell ∧ ((cellsFrom (s.heap.objs.size + 1) scope.names []).lookup y.1).isSome = true) := fun ⟨n, v⟩ hy => by
    rcases S.par n (List.of_mem_zip hy).1 with q | q
    · exact .inl q
    · exact .inr ⟨q, PySem.W.cellsFrom_some _ _ _ (.inl q)⟩
  refine codeAny_call_function hr.depth (KX _ _ lk) rfl S.co S.gen rfl (PySem.W.codeRec_of KX hcd) (hb _ _ _ _ ?_)
  refine wpAny_newFunctionEnv_cells S.kind hkind fun env he s1 x => ?_
  subst he
  refine ⟨lim.keeps x.toInCall.keep, codeAny_func ?_⟩
  obtain ⟨t, ht, hq⟩ := hbody A outer s H vs Q E (hr.deeper _) hsp
  have I : Inv (cxOf CX P w K mg base N qual scope f cdv A outer s H E) [] (start N vs) H s1 := inv_start S hr.hd e0 hl r x
  refine wpAny_mono (ht [] s1 (start N vs) H _ I hq) (fun fl s' hs => ?_) fun e s' hs => hs
  have fin : ∀ {σ' : St} {H' : Hp} {v : V} {u : Value}, Inv (cxOf CX P w K mg base N qual scope f cdv A outer s H E) [] σ' H' s' → RelV v u → Q v H' → CE outer P w H s Q u s' :=
    fun {σ' H' v u} J rv q => ⟨v, H', J.os, J.bare, J.base, J.hok, rv, q⟩
  cases fl with
  | ret u =>
    obtain ⟨v, σ', H', J, rv, q⟩ := hs
    exact fin J rv q
  | next =>
    obtain ⟨σ', H', J, q⟩ := hs
    exact fin (v := V.non) (u := Value.none) J rfl q
  | brk =>
    obtain ⟨_, _, _, q⟩ := hs
    exact False.elim q
  | cont =>
    obtain ⟨_, _, _, q⟩ := hs
    exact False.elim q
end L2
namespace L2
open PySem PySem.Spec PyProof.Rows
section
variable {X : Cx} {x : Str} {p pos : Pos} {e : Expr} {es : List Expr} {t : TA} {id T : String} {r : List V → Hp → VK → Prop}
def tCB (r : List V → Hp → VK → Prop) (t : TA) : TE := fun σ H Q => t σ H fun vs H1 => r vs H1 Q
theorem pe_callB (hc : CallR X (.builtin id) r) (hg : Gl X x) (hm : X.mg x = none) (hv : bootBuiltins x = some (.builtin id)) (ha : PA X (e :: es) t) (hn : x ≠ "__name__" := by decide) (hdb : (x == ("__debug__" : Str)) = false := by decide)
    (he : starEach (e :: es) X.env = (false, eval e X.env) :: starEach es X.env := by rfl) (hpl : (backTo pos (starEach es X.env)).any (·.1) = false := by rfl) : PE X (.Call (.Name x p) (e :: es) [] pos) (tCB r t) := by
  intro pins s σ H Q I h
  refine wpAny_Call_Name_kw (ld_blt I hg hm hv ?_ hn hdb)
  exact PyProof.Rows.callWith_builtin1 (thn (ha pos pins s σ H _ I h) fun us s1 ⟨vs, H1, I1, r1, q1⟩ => hc pins s1 σ H1 vs us Q I1 r1 q1) he hpl
end
end L2
namespace HT
open PySem PyProof.Rows
def lexLt : List Int → List Int → Bool
  | [], [] => false
  | [], _ :: _ => true
  | _ :: _, [] => false
  | x :: xs, y :: ys => if x = y then lexLt xs ys else decide (x < y)
theorem eqAt_int (A : Around) (s : Shared) (a : Int) (t : Tok) (c : Int) (u : Tok) : ∃ e, SeqAt.EqAt A s (.int a t) (.int c u) e ∧ (e = true ↔ a = c) :=
  ⟨(a == c), SeqAt.EqAt.int_int a t c u, by simp⟩
section
open PySem.SeqAt
open PySem.AutoSeq1 (wpAny_loadPart')
open PySem.MeetsSeq PySem.MeetsSeq2 PySem.MeetsSeq3
end
section
variable {prog : Program} {w : World} {A : Around} {E : Value → Shared → Prop} {s : Shared}
def sIx (n d : Nat) : Option Int → Nat
  | none => d
  | some v => if v < 0 then (v + (n : Int)).toNat else min v.toNat n
theorem sIx_none (n d : Nat) : sIx n d none = d := rfl
theorem sIx_nat (n d k : Nat) : sIx n d (some (k : Int)) = min k n := by
  show (if (k : Int) < 0 then ((k : Int) + (n : Int)).toNat else min (k : Int).toNat n) = min k n
  rw [if_neg (by omega), Int.toNat_natCast]
end
end HT
namespace L2
open PySem PySem.Spec PyProof.Rows
abbrev TO := St → Hp → (Option Int → Hp → Prop) → Prop
def PO (X : Cx) (e : Option Expr) (t : TO) : Prop :=
  ∀ (pins : List (Addr × Obj)) (s : Shared) (σ : St) (H : Hp) (Q : Option Int → Hp → Prop), Inv X pins σ H s → t σ H Q →
    wpAny (model X.prog X.w) X.A (evalPart e X.env) (fun u s' => ∃ o H', Inv X pins σ H' s' ∧ IsPart u o ∧ Q o H') X.xe s
def tNoPart : TO := fun _ H Q => Q none H
def tPart (t : TE) : TO := fun σ H Q => t σ H fun x H1 => ∃ i, x = .int i ∧ Q (some i) H1
theorem intsAre_of {ns : List Int} : ∀ {us : List Value}, Vals (ns.map V.int) us → IntsAre us ns := by
  induction ns with
  | nil => intro us r; rw [List.map_nil] at r; cases r; exact .nil
  | cons n ns ih =>
    intro us r
    rw [List.map_cons] at r
    cases r with
    | cons r1 r2 =>
      obtain ⟨t, e⟩ := r1
      subst e
      exact .cons n t (ih r2)
section
variable {X : Cx} {e : Expr} {te : TE} {lo hi : Option Expr} {tl th : TO} {pos p2 : Pos}
theorem po_none : PO X none tNoPart := by
  intro pins s σ H Q I h
  rw [evalPart_none]
  exact wpAny_pure ⟨none, H, I, .none, h⟩
theorem po_some (h : PE X e te) : PO X (some e) (tPart te) := by
  intro pins s σ H Q I hw
  rw [evalPart_some]
  refine thn (h pins s σ H _ I hw) fun u s1 ⟨x, H1, I1, r1, q1⟩ => ?_
  obtain ⟨i, rfl, q⟩ := q1
  obtain ⟨t, rfl⟩ := r1
  exact ⟨some i, H1, I1, .int i t, q⟩
def SlR (X : Cx) (r : V → Option Int → Option Int → Hp → VK → Prop) : Prop :=
  ∀ (pins : List (Addr × Obj)) (s : Shared) (σ : St) (H : Hp) (x : V) (v vl vu : Value) (lo hi : Option Int) (sl : Addr) (Q : VK), Inv X pins σ H s → RelV x v → s.heap.IsSliceOf sl vl vu .none → IsPart vl lo → IsPart vu hi → r x lo hi H Q →
    ∃ T id, typeLookup (.type T) "__getitem__" = pure (some (.builtin id)) ∧ s.TypeIs v T ∧ wpAny (model X.prog X.w) X.A (getItem v (.ref sl)) (EP X pins σ Q) X.xe s
theorem SlR.or {r r' : V → Option Int → Option Int → Hp → VK → Prop} (h : SlR X r) (h' : SlR X r') : SlR X (fun x lo hi H Q => r x lo hi H Q ∨ r' x lo hi H Q) := by
  intro pins s σ H x v vl vu lo hi sl Q I rx hs pl pu q
  rcases q with q | q
  · exact h pins s σ H x v vl vu lo hi sl Q I rx hs pl pu q
  · exact h' pins s σ H x v vl vu lo hi sl Q I rx hs pl pu q
def tSl (r : V → Option Int → Option Int → Hp → VK → Prop) (te : TE) (tl th : TO) : TE := fun σ H Q => te σ H fun x H1 => tl σ H1 fun l H2 => th σ H2 fun u H3 => r x l u H3 Q
theorem pe_slice {r : V → Option Int → Option Int → Hp → VK → Prop} (hr : SlR X r) (he : PE X e te) (hl : PO X lo tl) (hu : PO X hi th) : PE X (.Subscript e (.Slice lo hi none p2) pos) (tSl r te tl th) := by
  intro pins s σ H Q I h
  refine Subscript_ (thn (he pins s σ H _ I h) fun v s1 ⟨x, H1, I1, r1, q1⟩ => ?_)
  refine wpAny_Slice (thn (hl pins s1 σ H1 _ I1 q1) fun vl s2 ⟨l, H2, I2, pl, q2⟩ => thn (hu pins s2 σ H2 _ I2 q2) fun vu s3 ⟨u, H3, I3, pu, q3⟩ => ?_)
  rw [evalPart_none]
  refine wpAny_pure ?_
  have I4 : Inv X pins σ H3 { s3 with heap := s3.heap.push { cls := .type "slice", data := .fields #[vl, vu, .none] } } := I3.kept (t' := s3.toks) fun b ob q => Heap.get?_push_of_some _ q
  obtain ⟨T, id, hT, ht, hg⟩ := hr pins { s3 with heap := s3.heap.push { cls := .type "slice", data := .fields #[vl, vu, .none] } } σ H3 x v vl vu l u s3.heap.objs.size Q I4 r1 (Heap.IsSliceOf.new ..) pl pu q3
  show wpAny (model X.prog X.w) X.A (subscriptTail e (.Slice lo hi none p2) v (.ref s3.heap.objs.size)) (EP X pins σ Q) X.xe { s3 with heap := s3.heap.push { cls := .type "slice", data := .fields #[vl, vu, .none] } }
  exact tail_any (ops := [.ref s3.heap.objs.size, v]) ht hT hg (by with_unfolding_all rfl)
def cutV (xs : List V) (lo hi : Option Int) : List V := (xs.drop (HT.sIx xs.length 0 lo)).take (HT.sIx xs.length xs.length hi - HT.sIx xs.length 0 lo)
theorem cutV_length (xs : List V) (lo hi : Option Int) : (cutV xs lo hi).length ≤ xs.length := by
  unfold cutV
  rw [List.length_take, List.length_drop]
  omega
end
end L2
namespace L2
open PySem PySem.Spec PyProof.Rows
def ixN (n : Nat) (i : Int) : Option Nat := if 0 ≤ i then (if i < n then some i.toNat else none) else if -(n : Int) ≤ i then some (i + n).toNat else none
def atI {α : Type} (xs : List α) (i : Int) : Option α := (ixN xs.length i).bind fun j => xs[j]?
theorem ixN_seq {n : Nat} {i : Int} {j : Nat} (h : ixN n i = some j) : seqIndex? i n = some j ∧ j < n ∧ -(n : Int) ≤ i ∧ i < n := by
  unfold ixN at h
  by_cases h0 : 0 ≤ i
  · rw [if_pos h0] at h
    by_cases h1 : i < n
    · rw [if_pos h1] at h
      have e : i.toNat = j := Option.some.inj h
      exact ⟨by rw [seqIndex_of h0 h1, e], by omega, by omega, h1⟩
    · rw [if_neg h1] at h; cases h
  · rw [if_neg h0] at h
    by_cases h1 : -(n : Int) ≤ i
    · rw [if_pos h1] at h
      have e : (i + n).toNat = j := Option.some.inj h
      exact ⟨by rw [seqIndex_neg (by omega) h1, e], by omega, h1, by omega⟩
    · rw [if_neg h1] at h; cases h
theorem atI_get {α : Type} {xs : List α} {i : Int} {v : α} (h : atI xs i = some v) : ∃ j, seqIndex? i xs.length = some j ∧ xs[j]? = some v ∧ j < xs.length ∧ -(xs.length : Int) ≤ i ∧ i < xs.length := by
  unfold atI at h
  cases e : ixN xs.length i with
  | none => rw [e] at h; cases h
  | some j =>
    rw [e] at h
    obtain ⟨h1, h2, h3, h4⟩ := ixN_seq e
    exact ⟨j, h1, h, h2, h3, h4⟩
theorem atI_nat {α : Type} {xs : List α} {j : Nat} {v : α} (h : xs[j]? = some v) : atI xs (j : Int) = some v := by
  have hj : j < xs.length := (List.getElem?_eq_some_iff.mp h).1
  have e : ixN xs.length (j : Int) = some j := by
    unfold ixN
    rw [if_pos (by omega), if_pos (by omega)]; simp
  unfold atI; rw [e]; exact h
theorem atI_last {α : Type} (xs : List α) (v : α) : atI (xs ++ [v]) (-1) = some v := by
  have hl : (xs ++ [v]).length = xs.length + 1 := by simp
  have e : ixN (xs ++ [v]).length (-1) = some xs.length := by
    unfold ixN
    rw [hl, if_neg (by decide), if_pos (by omega)]
    congr 1
    omega
  unfold atI
  rw [e]
  show (xs ++ [v])[xs.length]? = some v
  simp
def PlainIx (b : Expr) : Prop := ∀ o i, subscripted b false o i = operate [o, i] (getItem o i)
def IxR (X : Cx) (r : R2) : Prop :=
  ∀ (value slice : Expr) (pins : List (Addr × Obj)) (s : Shared) (σ : St) (H : Hp) (x y : V) (v u : Value) (Q : VK), Inv X pins σ H s → RelV x v → RelV y u → r x y H Q →
    subscripted slice false v u = operate [v, u] (getItem v u) → wpAny (model X.prog X.w) X.A (subscriptTail value slice v u) (EP X pins σ Q) X.xe s
def MtR (X : Cx) (id : String) (r : V → List V → Hp → VK → Prop) : Prop :=
  ∀ (pins : List (Addr × Obj)) (s : Shared) (σ : St) (H : Hp) (x : V) (xs : List V) (v : Value) (us : List Value) (Q : VK), Inv X pins σ H s → RelV x v → Vals xs us → r x xs H Q →
    wpAny (model X.prog X.w) X.A (call (.builtin id) (v :: us)) (EP X pins σ Q) X.xe s
section
variable {X : Cx} {a b : Expr} {ta tb : TE} {pos : Pos}
theorem IxR.or {r r' : R2} (h : IxR X r) (h' : IxR X r') : IxR X (fun x y H Q => r x y H Q ∨ r' x y H Q) := by
  intro value slice pins s σ H x y v u Q I rx ry q hs
  rcases q with q | q
  · exact h value slice pins s σ H x y v u Q I rx ry q hs
  · exact h' value slice pins s σ H x y v u Q I rx ry q hs
theorem MtR.or {id : String} {r r' : V → List V → Hp → VK → Prop} (h : MtR X id r) (h' : MtR X id r') : MtR X id (fun x xs H Q => r x xs H Q ∨ r' x xs H Q) := by
  intro pins s σ H x xs v us Q I rx rs q
  rcases q with q | q
  · exact h pins s σ H x xs v us Q I rx rs q
  · exact h' pins s σ H x xs v us Q I rx rs q
theorem pe_ix {r : R2} (hr : IxR X r) (ha : PE X a ta) (hb : PE X b tb) (hs : PlainIx b) : PE X (.Subscript a b pos) (tOp r ta tb) := by
  intro pins s σ H Q I h
  exact Subscript_ (binT ha hb I h fun v u s2 x y H2 I2 rx ry q => hr a b pins s2 σ H2 x y v u Q I2 rx ry q (hs _ _))
def rIxL (K : PySem.W.Frag) : R2 := fun x y H Q => ∃ p xs i v, x = .ref p ∧ y = .int i ∧ SqL K H p xs ∧ atI xs i = some v ∧ Q v H
def rIxT (K : PySem.W.Frag) : R2 := fun x y H Q => ∃ p xs i v, x = .ref p ∧ y = .int i ∧ SqT K H p xs ∧ atI xs i = some v ∧ Q v H
theorem ix_list : IxR X (rIxL X.K) := by
  intro value slice pins s σ H x y v u Q I rx ry h hs
  obtain ⟨p, xs, i, z, rfl, rfl, hq, he, q⟩ := h
  cases rx
  obtain ⟨t, rfl⟩ := ry
  obtain ⟨its, r, pl, hz⟩ := I.list hq
  obtain ⟨j, h1, h2, h3, h4, h5⟩ := atI_get he
  obtain ⟨w, ew, rw'⟩ := r.get h2
  have hl := r.length
  have hn := line63
  have fin : EP X pins σ Q w s := ⟨z, H, I, rw', q⟩
  by_cases h0 : 0 ≤ i
  · have hj : i.toNat = j := by
      rw [seqIndex_of h0 h5] at h1
      exact Option.some.inj h1
    exact item_listR pl.isList h0 (by omega) (by rw [hj]; simpa using ew) fin hs
  · have hj : (i + (its.toArray.size : Int)).toNat = j := by
      rw [seqIndex_neg (by omega) h4] at h1
      rw [List.size_toArray, ← hl]
      exact Option.some.inj h1
    exact subscriptTail_builtinR (x := w) pl.isList.typeIs slot_list_getitem.lookup
      (wpAny_getItem_list_neg (Q := fun r s' => r = w ∧ EP X pins σ Q r s') pl.isList (by omega) (by rw [List.size_toArray] <;> omega) (by omega) (by rw [hj]; simpa using ew) ⟨rfl, fin⟩) hs
theorem ix_tup : IxR X (rIxT X.K) := by
  intro value slice pins s σ H x y v u Q I rx ry h hs
  obtain ⟨p, xs, i, z, rfl, rfl, hq, he, q⟩ := h
  cases rx
  obtain ⟨t, rfl⟩ := ry
  obtain ⟨its, r, pl, hz⟩ := I.tuple hq
  obtain ⟨j, h1, h2, h3, h4, h5⟩ := atI_get he
  obtain ⟨w, ew, rw'⟩ := r.get h2
  have hl := r.length
  have hn := line63
  have fin : EP X pins σ Q w s := ⟨z, H, I, rw', q⟩
  exact subscriptTail_builtinR (x := w) pl.typeIs slot_tuple_getitem.lookup
    (getItem_tuple (j := j) (Q := fun r s' => r = w ∧ EP X pins σ Q r s') pl (by omega) (by omega) (by rw [List.size_toArray, ← hl]; exact h1) (by simpa using ew) ⟨rfl, fin⟩) hs
theorem Inv.lst {pins : List (Addr × Obj)} {σ : St} {H : Hp} {s : Shared} {p : Addr} {xs : List V} (I : Inv X pins σ H s) (h : H p = some (.lst xs)) :
    ∃ (its : List Value) (n : Nat), Vals xs its ∧ s.heap.get? p = some { cls := .type "list", data := .seq its.toArray n } ∧ xs.length ≤ sizeLine := by
  obtain ⟨z, its, n, r, e⟩ := I.hok p _ h
  exact ⟨its, n, r, e, z⟩
theorem slice_bounds (lo hi : Option Int) (n : Nat) : (sliceBounds lo hi none n).1 = ((HT.sIx n 0 lo : Nat) : Int) ∧ (sliceBounds lo hi none n).2.1 = ((HT.sIx n n hi : Nat) : Int) ∧ (sliceBounds lo hi none n).2.2 = 1 := by
  refine ⟨?_, ?_, rfl⟩
  · cases lo with
    | none => simp [sliceBounds, HT.sIx]
    | some i =>
      simp only [sliceBounds, HT.sIx, Option.getD_none, show (1 : Int) > 0 by decide, if_true]
      by_cases h : i < 0
      · simp only [h, if_true] <;> omega
      · simp only [h, if_false] <;> omega
  · cases hi with
    | none => simp [sliceBounds, HT.sIx]
    | some i =>
      simp only [sliceBounds, HT.sIx, Option.getD_none, show (1 : Int) > 0 by decide, if_true]
      by_cases h : i < 0
      · simp only [h, if_true] <;> omega
      · simp only [h, if_false] <;> omega
theorem slicePick_cut (its : List Value) (lo hi : Option Int) : slicePick its.toArray lo hi none = ((its.drop (HT.sIx its.length 0 lo)).take (HT.sIx its.length its.length hi - HT.sIx its.length 0 lo)).toArray := by
  obtain ⟨h1, h2, h3⟩ := slice_bounds lo hi its.toArray.size
  unfold slicePick
  rw [h1, h2, h3]
  simp only [sliceRange_one, pick_run, List.size_toArray] <;> rfl
def rSlL (K : PySem.W.Frag) : V → Option Int → Option Int → Hp → VK → Prop := fun x lo hi H Q => ∃ a xs, x = .ref a ∧ SqL K H a xs ∧ ∀ p, H p = none → Q (.ref p) (upd H p (.lst (cutV xs lo hi)))
theorem sl_list : SlR X (rSlL X.K) := by
  intro pins s σ H x v vl vu lo hi sl Q I rx hs pl pu h
  obtain ⟨a, xs, rfl, hx, q⟩ := h
  cases rx
  obtain ⟨its, r, ht, hz⟩ := I.list hx
  have hlen := r.length
  refine ⟨"list", _, slot_list_getitem.lookup, ht.isList.typeIs, ?_⟩
  refine wpAny_getItem_list_slice ht.isList hs pl pu .none (by simp) ?_ (by rw [List.size_toArray] <;> omega)
  rw [slicePick_cut, ← hlen]
  refine ⟨.ref s.heap.objs.size, _, I.laid (t' := s.toks) (o := .lst (cutV xs lo hi)) (fun b ob q => Heap.get?_push_of_some _ q) (Nat.le_refl _) ?_, rfl, q _ (I.hok.fresh (Nat.le_refl _))⟩
  exact ⟨Nat.le_trans (cutV_length xs lo hi) hz, _, 0, (r.drop (HT.sIx xs.length 0 lo)).take (HT.sIx xs.length xs.length hi - HT.sIx xs.length 0 lo), Heap.get?_push_size _ rfl⟩
theorem call_len_seq : CallR X (.builtin "len") (fun xs H Q => ∃ p ys, xs = [.ref p] ∧ (SqL X.K H p ys ∨ SqT X.K H p ys) ∧ Q (.int ys.length) H) := by
  intro pins s σ H xs us Q I r h
  obtain ⟨p, ys, rfl, hq, q⟩ := h
  obtain ⟨u, rfl, rx⟩ := vals1 r
  cases rx
  have hn := line63
  rcases hq with hq | hq
  · obtain ⟨its, r', pl, hz⟩ := I.list hq
    have hlen := r'.length
    exact Calls.call_len_list pl.isList (by simp only [List.size_toArray] <;> omega) ⟨.int ys.length, H, I.tok _, ⟨s.toks + 1, by rw [List.size_toArray, hlen]⟩, q⟩
  · obtain ⟨its, r', pl, hz⟩ := I.tuple hq
    have hlen := r'.length
    exact len_tuple pl (by simp only [List.size_toArray] <;> omega) ⟨.int ys.length, H, I.tok _, ⟨s.toks + 1, by rw [List.size_toArray, hlen]⟩, q⟩
theorem CallR.or {f : Value} {r r' : List V → Hp → VK → Prop} (h : CallR X f r) (h' : CallR X f r') : CallR X f (fun xs H Q => r xs H Q ∨ r' xs H Q) := by
  intro pins s σ H xs us Q I rs q
  rcases q with q | q
  · exact h pins s σ H xs us Q I rs q
  · exact h' pins s σ H xs us Q I rs q
def tyV (K : PySem.W.Frag) (T : String) (x : V) (H : Hp) : Prop := match x with
  | .str _ => T = "str"
  | .int _ => T = "int"
  | .ref p => (T = "list" ∧ ∃ xs, SqL K H p xs) ∨ (T = "tuple" ∧ ∃ o, K.lookup p = some o ∧ o.cls = .type "tuple" ∧ o.dict = none) ∨
      (T = "dict" ∧ ((∃ kvs, H p = some (.dK kvs)) ∨ ∃ kvs, H p = some (.dT kvs))) ∨ (T = "set" ∧ ∃ S n, H p = some (.set S n))
  | _ => False
theorem tyV_is {pins : List (Addr × Obj)} {σ : St} {H : Hp} {s : Shared} {T : String} {x : V} {v : Value} (I : Inv X pins σ H s) (r : RelV x v) (ty : tyV X.K T x H) :
    s.TypeIs v T ∧ ∀ a, v = .ref a → ∃ ob, s.heap.get? a = some ob ∧ ob.dict = none := by
  cases x with
  | str z =>
    obtain ⟨t, rfl⟩ := r
    cases (show T = "str" from ty)
    exact ⟨typeIs_str s z t, fun _ e => nomatch e⟩
  | int i =>
    obtain ⟨t, rfl⟩ := r
    cases (show T = "int" from ty)
    exact ⟨typeIs_int s i t, fun _ e => nomatch e⟩
  | ref p =>
    cases r
    rcases ty with ⟨rfl, xs, hq⟩ | ⟨rfl, o, hk, hc, hd⟩ | ⟨rfl, hk⟩ | ⟨rfl, S, n, hk⟩
    · obtain ⟨its, _, pl, _⟩ := I.list hq
      refine ⟨pl.isList.typeIs, fun a e => ?_⟩
      cases e
      obtain ⟨o, n, e, c, hd, _⟩ := pl
      exact ⟨o, e, hd⟩
    · refine ⟨⟨o, I.kIn p o hk, hc⟩, fun a e => ?_⟩
      cases e
      exact ⟨o, I.kIn _ o hk, hd⟩
    · have z : ∃ o, s.heap.get? p = some o ∧ o.ExactDict := by
        rcases hk with ⟨kvs, hk⟩ | ⟨kvs, hk⟩
        · obtain ⟨_, _, _, _, o, _, _, e, ex, _⟩ := I.hok p _ hk
          exact ⟨o, e, ex⟩
        · obtain ⟨_, _, _, _, o, _, _, e, ex, _⟩ := I.hok p _ hk
          exact ⟨o, e, ex⟩
      obtain ⟨o, e, ex⟩ := z
      refine ⟨⟨o, e, ex.1⟩, fun a e2 => ?_⟩
      cases e2
      exact ⟨o, e, ex.2.1⟩
    · obtain ⟨o, _, _, _, e, ex, _⟩ := I.hok p _ hk
      refine ⟨⟨o, e, ex.1⟩, fun a e2 => ?_⟩
      cases e2
      exact ⟨o, e, ex.2.1⟩
  | _ => exact False.elim ty
def tBM (K : PySem.W.Frag) (T : String) (r : V → List V → Hp → VK → Prop) (to : TE) (t : TA) : TE := fun σ H Q => to σ H fun x H1 => tyV K T x H1 ∧ t σ H1 fun xs H2 => r x xs H2 Q
variable {o e : Expr} {es : List Expr} {to : TE} {t : TA} {name : Str} {apos cpos : Pos} {T id : String} {r : V → List V → Hp → VK → Prop}
theorem pe_bm (pa : PlainAttrs T) (slot : Slot T name id) (hty : typeOf (.builtin id) = pure (.type "method_descriptor")) (hm : MtR X id r) (ho : PE X o to) (ha : PA X (e :: es) t)
    (hbase : attributeBase o name X.env (eval o X.env) = eval o X.env := by rfl)
    (hfew : ((backTo cpos (starEach (e :: es) X.env)).all (fun x => !x.1) && (backToKw cpos (keywordEach [] X.env)).all (fun x => x.1.isSome)
      && decide ((e :: es).length + ([] : List Keyword).length + (if ([] : List Keyword).isEmpty then 0 else 1) < 30)) = true := by rfl)
    (hline : (apos.endLine == cpos.line) = true := by rfl) (hs : starEach (e :: es) X.env = (false, eval e X.env) :: starEach es X.env := by rfl) (hplain : (backTo cpos (starEach es X.env)).any (·.1) = false := by rfl) :
    PE X (.Call (.Attribute o name apos) (e :: es) [] cpos) (tBM X.K T r to t) := by
  intro pins s σ H Q I h
  refine wpAny_Call_method_late hbase hfew hline rfl (thn (ho pins s σ H _ I h) fun v s1 ⟨x, H1, I1, r1, ty, q1⟩ => ?_)
  obtain ⟨h1, h2⟩ := tyV_is I1 r1 ty
  refine ⟨T, id, pa, slot, hty, h1, h2, ?_⟩
  have hA := ha cpos pins s1 σ H1 _ I1 q1
  rw [hs] at hA ⊢
  refine Calls.callWith_builtin (by show (false || (backTo cpos (starEach es X.env)).any (·.1)) = false; rw [hplain] <;> rfl) (Calls.evalArgs_plain ?_)
  exact thn hA fun us s2 ⟨vs, H2, I2, r2, q2⟩ => hm pins s2 σ H2 x vs v us Q I2 r1 r2 q2
end
end L2
namespace L2
open PySem PySem.Spec PyProof.Rows
def MtM (X : Cx) (id : String) (r : V → List V → Hp → VK → Prop) : Prop :=
  ∀ (pins : List (Addr × Obj)) (s : Shared) (σ : St) (H : Hp) (x : V) (xs : List V) (v : Value) (us : List Value) (Q : VK), Inv X pins σ H s → RelV x v → Vals xs us → r x xs H Q →
    wpAny (model X.prog X.w) X.A (call (.builtin id) (v :: us)) (EP X pins σ Q) X.xe s
theorem Vals.one : ∀ {x : V} {us : List Value}, Vals [x] us → ∃ u, us = [u] ∧ RelV x u
  | _, _, .cons r .nil => ⟨_, rfl, r⟩
theorem Vals.two : ∀ {x y : V} {us : List Value}, Vals [x, y] us → ∃ u v, us = [u, v] ∧ RelV x u ∧ RelV y v
  | _, _, _, .cons r (.cons q .nil) => ⟨_, _, rfl, r, q⟩
theorem Vals.zero : ∀ {us : List Value}, Vals [] us → us = []
  | _, .nil => rfl
section
variable {X : Cx} {pins : List (Addr × Obj)} {σ : St} {H : Hp} {s : Shared} {l b : Addr} {xs ys zs : List V}
theorem Inv.lset {its its' : List Value} {n : Nat} {f : Array Value → Array Value} {t' : Nat} (I : Inv X pins σ H s) (hH : H l = some (.lst xs))
    (e : s.heap.get? l = some { cls := .type "list", data := .seq its.toArray n }) (hf : f its.toArray = its'.toArray) (hv : Vals ys its') (hz : ys.length ≤ sizeLine) :
    Inv X pins σ (upd H l (.lst ys)) { s with heap := s.heap.update l (Obj.mapSeq f), toks := t' } := by
  have q := PySem.IsL.update e f
  rw [hf] at q
  refine I.write (x := l) (e := l) (by rw [hH]; exact trivial) (.inl rfl) (fun b' u hb hu => (Heap.get?_update_other s.heap (Obj.mapSeq f) (Ne.symm hb)).trans hu) ⟨_, q⟩ ?_
  exact ⟨hz, its', _, hv, q⟩
theorem Inv.lnew {its : List Value} {t' : Nat} (I : Inv X pins σ H s) (hv : Vals ys its) (hz : ys.length ≤ sizeLine) :
    Inv X pins σ (upd H s.heap.objs.size (.lst ys)) { s with heap := s.heap.push { cls := .type "list", data := .seq its.toArray }, toks := t' } :=
  I.laid (fun _ _ q => Heap.get?_push_of_some _ q) (Nat.le_refl _) ⟨hz, its, 0, hv, Heap.get?_push_size _ rfl⟩
theorem Inv.fresh (I : Inv X pins σ H s) : H s.heap.objs.size = none := I.hok.fresh (Nat.le_refl _)
theorem Inv.lstM (I : Inv X pins σ H s) (hH : H l = some (.lst xs)) : xs.length ≤ sizeLine ∧ ∃ (its : List Value) (n : Nat), Vals xs its ∧ xs.length = its.length ∧ s.heap.get? l = some { cls := .type "list", data := .seq its.toArray n } := by
  obtain ⟨z, its, n, r, e⟩ := I.hok l _ hH
  exact ⟨z, its, n, r, r.length, e⟩
theorem notLongL {n : Nat} (h : n ≤ sizeLine) : Builtin.List.listTooLong n = false := by
  unfold Builtin.List.listTooLong
  exact decide_eq_false (by omega)
end
section
variable {X : Cx}
def rAppend : V → List V → Hp → VK → Prop := fun x vs H Q => ∃ l xs y, x = .ref l ∧ vs = [y] ∧ H l = some (.lst xs) ∧ xs.length < sizeLine ∧ Q .non (upd H l (.lst (xs ++ [y])))
theorem mt_append : MtM X "list.append" rAppend := by
  intro pins s σ H x vs v us Q I rx rv h
  obtain ⟨l, xs, y, rfl, rfl, hH, hz, q⟩ := h
  cases rx
  obtain ⟨u, rfl, ru⟩ := rv.one
  obtain ⟨z, its, n, r, hl, e⟩ := I.lstM hH
  refine call_meets F.slot_list_append ⟨_, e, rfl⟩ F.entry_list_append (F.args_list_append_2 _ _) (PySem.list_append l its.toArray n u (by rw [List.size_toArray]; omega)) ⟨e, ?_⟩
  refine ⟨.non, _, I.lset (its' := its ++ [u]) hH e (by simp) (r.append (.cons ru .nil)) ?_, rfl, q⟩
  rw [List.length_append, List.length_singleton]
  omega
def rExtend : V → List V → Hp → VK → Prop := fun x vs H Q => ∃ l b xs zs, x = .ref l ∧ vs = [.ref b] ∧ H l = some (.lst xs) ∧ H b = some (.lst zs) ∧ xs.length + zs.length ≤ sizeLine ∧ Q .non (upd H l (.lst (xs ++ zs)))
theorem mt_extend : MtM X "list.extend" rExtend := by
  intro pins s σ H x vs v us Q I rx rv h
  obtain ⟨l, b, xs, zs, rfl, rfl, hH, hB, hz, q⟩ := h
  cases rx
  obtain ⟨u, rfl, ru⟩ := rv.one
  cases ru
  obtain ⟨z, its, n, r, hl, e⟩ := I.lstM hH
  obtain ⟨z2, its2, n2, r2, hl2, e2⟩ := I.lstM hB
  have hsz : its.toArray.size + its2.toArray.size ≤ sizeLine := by rw [List.size_toArray, List.size_toArray]; omega
  have hlong : ¬ (!its.toArray.isEmpty && Builtin.List.listTooLong (its.toArray.size + its2.toArray.size)) = true := by
    rw [notLongL hsz, Bool.and_false]
    exact Bool.false_ne_true
  refine call_meets F.slot_list_extend ⟨_, e, rfl⟩ F.entry_list_extend (F.args_list_extend_2 _ _)
    (AutoSeq1.list_extend_list_list_0 l its.toArray n b its2.toArray n2 hlong (by rw [List.size_toArray]; omega) (by omega)) ⟨e, e2, ?_⟩
  refine ⟨.non, _, I.lset (its' := its ++ its2) hH e (by simp) (r.append r2) ?_, rfl, q⟩
  rw [List.length_append]
  omega
end
section
variable {prog : Program} {w : World} {A : Around} {E : Value → Shared → Prop} {s : Shared}
set_option maxRecDepth 100000 in
end
section
variable {X : Cx}
end
end L2
namespace L2
open PySem PySem.Spec PyProof.Rows
theorem Vals.ints : ∀ {ns : List Int} {us : List Value}, Vals (ns.map V.int) us → IntsAre us ns
  | [], us, h => by
    rw [List.map_nil] at h
    cases h
    exact IntsAre.nil
  | n :: ns, us, h => by
    rw [List.map_cons] at h
    cases h with
    | cons r t =>
      obtain ⟨k, rfl⟩ := r
      exact IntsAre.cons n k (Vals.ints t)
theorem Vals.strs : ∀ {xs : List Str} {us : List Value}, Vals (xs.map V.str) us → StrsAre us xs
  | [], us, h => by
    rw [List.map_nil] at h
    cases h
    exact StrsAre.nil
  | x :: xs, us, h => by
    rw [List.map_cons] at h
    cases h with
    | cons r t =>
      obtain ⟨k, rfl⟩ := r
      exact StrsAre.cons x k (Vals.strs t)
section
variable {prog : Program} {w : World} {A : Around} {E : Value → Shared → Prop} {s : Shared} {l : Addr} {its : List Value} {ns : List Int} {Q : Value → Shared → Prop}
end
section
variable {X : Cx}
end
section
variable {X : Cx}
end
section
variable {X : Cx}
end
section
variable {X : Cx}
end
mutual
inductive Dp (K : PySem.W.Frag) (H : Hp) : V → PyData → Prop
  | non : Dp K H .non .none
  | bl (b : Bool) : Dp K H (.bl b) (.bool b)
  | int (i : Int) : Dp K H (.int i) (.int i)
  | str (x : Str) : Dp K H (.str x) (.str x)
  | lst {a : Addr} {xs : List V} {ds : List PyData} : SqL K H a xs → DpAll K H xs ds → Dp K H (.ref a) (.list ds)
  | tup {a : Addr} {xs : List V} {ds : List PyData} : SqT K H a xs → DpAll K H xs ds → Dp K H (.ref a) (.tuple ds)
inductive DpAll (K : PySem.W.Frag) (H : Hp) : List V → List PyData → Prop
  | nil : DpAll K H [] []
  | cons {v : V} {vs : List V} {d : PyData} {ds : List PyData} : Dp K H v d → DpAll K H vs ds → DpAll K H (v :: vs) (d :: ds)
end
section
variable {X : Cx} {pins : List (Addr × Obj)} {σ : St} {H : Hp} {s : Shared}
mutual
theorem Dp.reads (I : Inv X pins σ H s) : ∀ (d : PyData) (v : V) (u : Value), Dp X.K H v d → RelV v u → ∃ as, Reads s.heap u d as
  | .none, _, _, h, r => by
    cases h
    cases r
    exact ⟨_, Reads.none⟩
  | .bool b, _, _, h, r => by
    cases h
    cases r
    exact ⟨_, Reads.bool b⟩
  | .int i, _, _, h, r => by
    cases h
    obtain ⟨t, rfl⟩ := r
    exact ⟨_, Reads.int i t⟩
  | .str x, _, _, h, r => by
    cases h
    obtain ⟨t, rfl⟩ := r
    exact ⟨_, Reads.str x t⟩
  | .list ds, _, _, h, r => by
    cases h with
    | lst hs ha =>
      cases r
      obtain ⟨its, rv, ⟨o, n, ho, hc, _, hd⟩, _⟩ := I.list hs
      obtain ⟨as, hr⟩ := Dp.readsAll I ds _ its ha rv
      exact ⟨_, Reads.list ho hc hd hr⟩
  | .tuple ds, _, _, h, r => by
    cases h with
    | tup hs ha =>
      cases r
      obtain ⟨its, rv, ⟨o, ho, hc, n, hd⟩, _⟩ := I.tuple hs
      obtain ⟨as, hr⟩ := Dp.readsAll I ds _ its ha rv
      exact ⟨_, Reads.tuple ho hc hd hr⟩
  | .dict _, _, _, h, _ => by cases h
theorem Dp.readsAll (I : Inv X pins σ H s) : ∀ (ds : List PyData) (vs : List V) (us : List Value), DpAll X.K H vs ds → Vals vs us → ∃ as, ReadsAll s.heap us ds as
  | [], _, _, h, r => by
    cases h
    cases r
    exact ⟨_, ReadsAll.nil⟩
  | d :: ds, _, _, h, r => by
    cases h with
    | cons h1 h2 =>
      cases r with
      | cons r1 r2 =>
        obtain ⟨as, q1⟩ := Dp.reads I d _ _ h1 r1
        obtain ⟨bs, q2⟩ := Dp.readsAll I ds _ _ h2 r2
        exact ⟨_, ReadsAll.cons q1 q2⟩
end
end
section
variable {X : Cx}
end
end L2
namespace L2
open PySem PySem.Spec PyProof.Rows
abbrev CellAt (h : Heap) (c : Addr) (v : Option Value) : Prop := h.IsCell c v
def relS (scope sc : Scope) : Scope :=
  { scope with names := scope.names.map fun (n, k) => if (k == .free && sc.kind == .function && sc.names.lookup n == some .cell) then (n, .cell) else (n, k) }
def cloFrom (cells : List (Str × Addr)) : List (Str × NameKind) → List (Str × Addr) → List (Str × Addr)
  | [], acc => acc
  | (n, k) :: r, acc => if k == .free then cloFrom cells r ((n, (cells.lookup n).getD 0) :: acc) else cloFrom cells r acc
theorem closure_loop (env : Env) (f : Str × NameKind → List (Str × Addr) → Sem (ForInStep (List (Str × Addr))))
    (hf : ∀ n k c, f (n, k) c = if k == .free then (do let a ← cellOf env n; pure (.yield ((n, a) :: c))) else pure (.yield c)) :
    ∀ (names : List (Str × NameKind)) (acc : List (Str × Addr)), (∀ y ∈ names, y.2 = .free → ∃ c, env.cells.lookup y.1 = some c) → forIn names acc f = pure (cloFrom env.cells names acc)
  | [], acc, _ => by rw [List.forIn_nil]; rfl
  | (n, k) :: r, acc, h => by
    rw [List.forIn_cons, hf]
    have ih := fun acc => closure_loop env f hf r acc fun y hy => h y (List.mem_cons_of_mem _ hy)
    unfold cloFrom
    by_cases hk : (k == NameKind.free) = true
    · rw [if_pos hk, if_pos hk]
      obtain ⟨c, hc⟩ := h (n, k) List.mem_cons_self (by simpa using hk)
      have e : cellOf env n = pure c := by unfold cellOf; rw [hc]
      rw [e]
      have e2 : (env.cells.lookup n).getD 0 = c := by rw [hc]; rfl
      rw [e2]
      exact ih _
    · rw [if_neg hk, if_neg hk]
      exact ih _
theorem closure_ok {scope : Scope} {env : Env} (h : ∀ y ∈ scope.names, y.2 = .free → ∃ c, env.cells.lookup y.1 = some c) : closureFor scope env = pure (cloFrom env.cells scope.names []) := by
  simp only [closureFor]
  rw [closure_loop env _ (fun n k c => rfl) scope.names [] h]
  rfl
theorem mem_lookup {α : Type} : ∀ {l : List (Str × α)} {n : Str} {c : α}, (n, c) ∈ l → ∃ c', l.lookup n = some c'
  | (k, v) :: r, n, c, h => by
    rw [List.lookup_cons]
    cases hb : n == k with
    | true => exact ⟨_, rfl⟩
    | false =>
      rcases List.mem_cons.mp h with e | h
      · cases e; simp at hb
      · exact mem_lookup h
theorem cloFrom_mem {cells : List (Str × Addr)} : ∀ {names : List (Str × NameKind)} {acc : List (Str × Addr)} {n : Str} {c : Addr}, (n, c) ∈ cloFrom cells names acc → (n, c) ∈ acc ∨ ((n, .free) ∈ names ∧ c = (cells.lookup n).getD 0)
  | [], _, _, _, h => .inl h
  | (m, k) :: r, acc, n, c, h => by
    unfold cloFrom at h
    split at h
    · rename_i hk
      have hk : k = .free := by simpa using hk
      rcases cloFrom_mem h with h | ⟨h1, h2⟩
      · rcases List.mem_cons.mp h with e | h
        · cases e; exact .inr ⟨hk ▸ List.mem_cons_self, rfl⟩
        · exact .inl h
      · exact .inr ⟨List.mem_cons_of_mem _ h1, h2⟩
    · rcases cloFrom_mem h with h | ⟨h1, h2⟩
      · exact .inl h
      · exact .inr ⟨List.mem_cons_of_mem _ h1, h2⟩
theorem cloFrom_acc {cells : List (Str × Addr)} : ∀ {names : List (Str × NameKind)} {acc : List (Str × Addr)} {p : Str × Addr}, p ∈ acc → p ∈ cloFrom cells names acc
  | [], _, _, h => h
  | (m, k) :: r, acc, p, h => by
    unfold cloFrom
    split
    · exact cloFrom_acc (List.mem_cons_of_mem _ h)
    · exact cloFrom_acc h
theorem cloFrom_has {cells : List (Str × Addr)} : ∀ {names : List (Str × NameKind)} {acc : List (Str × Addr)} {n : Str}, (n, .free) ∈ names → (n, (cells.lookup n).getD 0) ∈ cloFrom cells names acc
  | (m, k) :: r, acc, n, h => by
    unfold cloFrom
    rcases List.mem_cons.mp h with e | h
    · cases e
      exact cloFrom_acc List.mem_cons_self
    · split
      · exact cloFrom_has h
      · exact cloFrom_has h
theorem cells_mem : ∀ {names : List (Str × NameKind)} {h : Heap} {acc : List (Str × Addr)} {x : Str} {c : Addr}, (x, c) ∈ cellsFrom h.objs.size names acc →
    (x, c) ∈ acc ∨ ((x, .cell) ∈ names ∧ h.objs.size ≤ c ∧ CellAt (pushCells h names) c none)
  | [], _, _, _, _, h => .inl h
  | (n, k) :: r, h, acc, x, c, hm => by
    unfold cellsFrom at hm
    unfold pushCells
    split at hm
    · rename_i hk
      rw [if_pos hk]
      have hk : k = .cell := by simpa using hk
      rw [← Heap.size_push h { cls := .type "cell", data := .cell none }] at hm
      rcases cells_mem hm with hm | ⟨h1, h2, h3⟩
      · rcases List.mem_cons.mp hm with e | hm
        · cases e
          exact .inr ⟨hk ▸ List.mem_cons_self, Nat.le_refl _, _, pushCells_keeps r _ _ _ (Heap.get?_push_size _ rfl), rfl⟩
        · exact .inl hm
      · rw [Heap.size_push] at h2
        exact .inr ⟨List.mem_cons_of_mem _ h1, Nat.le_of_succ_le h2, h3⟩
    · rename_i hk
      rw [if_neg hk]
      rcases cells_mem hm with hm | ⟨h1, h2, h3⟩
      · exact .inl hm
      · exact .inr ⟨List.mem_cons_of_mem _ h1, h2, h3⟩
theorem cells_acc : ∀ {names : List (Str × NameKind)} {n : Nat} {acc : List (Str × Addr)} {p : Str × Addr}, p ∈ acc → p ∈ cellsFrom n names acc
  | [], _, _, _, h => h
  | (m, k) :: r, n, acc, p, h => by
    unfold cellsFrom
    split
    · exact cells_acc (List.mem_cons_of_mem _ h)
    · exact cells_acc h
theorem cells_has : ∀ {names : List (Str × NameKind)} {n : Nat} {acc : List (Str × Addr)} {x : Str}, (x, .cell) ∈ names → ∃ c, (x, c) ∈ cellsFrom n names acc
  | (m, k) :: r, n, acc, x, h => by
    unfold cellsFrom
    rcases List.mem_cons.mp h with e | h
    · cases e
      exact ⟨n, cells_acc List.mem_cons_self⟩
    · split
      · exact cells_has h
      · exact cells_has h
theorem cells_inj : ∀ {names : List (Str × NameKind)} {h : Heap} {acc : List (Str × Addr)} {x y : Str} {c : Addr}, (∀ p ∈ acc, p.2 < h.objs.size) → (∀ x y c, (x, c) ∈ acc → (y, c) ∈ acc → x = y) →
    (x, c) ∈ cellsFrom h.objs.size names acc → (y, c) ∈ cellsFrom h.objs.size names acc → x = y
  | [], _, _, _, _, _, _, hi, h1, h2 => hi _ _ _ h1 h2
  | (n, k) :: r, h, acc, x, y, c, hl, hi, h1, h2 => by
    unfold cellsFrom at h1 h2
    split at h1
    · rename_i hk
      rw [if_pos hk] at h2
      rw [← Heap.size_push h { cls := .type "cell", data := .cell none }] at h1 h2
      refine cells_inj (h := h.push _) (fun p hp => ?_) (fun x y c a b => ?_) h1 h2
      · rw [Heap.size_push]
        rcases List.mem_cons.mp hp with rfl | hp
        · exact Nat.lt_succ_self _
        · exact Nat.lt_succ_of_lt (hl p hp)
      · rcases List.mem_cons.mp a with e | a <;> rcases List.mem_cons.mp b with e' | b
        · cases e; cases e'; rfl
        · cases e; exact absurd (hl _ b) (Nat.lt_irrefl _)
        · cases e'; exact absurd (hl _ a) (Nat.lt_irrefl _)
        · exact hi _ _ _ a b
    · rename_i hk
      rw [if_neg hk] at h2
      exact cells_inj hl hi h1 h2
theorem newEnv_comp {M : Model} {A : Around} {E : Value → Shared → Prop} {s : Shared} {scope : Scope} {globals : Addr} {closure : List (Str × Addr)} {qual : Str} {func : Option Addr} {code : Value} {around : Env} {builtins : Addr} {Q : Env → Shared → Prop}
    (h : Q (newEnv scope s.heap.objs.size globals (cellsFrom (s.heap.objs.size + 1) scope.names closure) qual func code (some around) builtins)
      { s with heap := pushCells (s.heap.push { cls := .type "dict", data := .dict #[] }) scope.names }) :
    wpAny M A (newFunctionEnv scope globals closure [] qual func code (some around) builtins) Q E s := by
  simp only [newFunctionEnv, Option.isSome_some, if_true]
  refine wpAny_bind (wpAny_alloc ?_)
  refine wpAny_bind (wpAny_layCells _ (fun n k c => rfl) scope.names closure _ _ ?_)
  rw [show ({ s with heap := s.heap.push { cls := .type "dict", data := .dict #[] } } : Shared).heap.objs.size = s.heap.objs.size + 1 from Heap.size_push ..]
  rw [List.forIn_nil]
  exact wpAny_bind (wpAny_pure (wpAny_pure h))
theorem lookup_relS {sc : Scope} : ∀ {names : List (Str × NameKind)} {x : Str} {k : NameKind},
    (names.map fun (n, k) => if (k == NameKind.free && sc.kind == .function && sc.names.lookup n == some .cell) then (n, NameKind.cell) else (n, k)).lookup x = some k →
    ∃ k', names.lookup x = some k' ∧ (k = k' ∨ (k' = .free ∧ k = .cell))
  | [], _, _, h => by simp at h
  | (n, k₀) :: r, x, k, h => by
    have ih := @lookup_relS sc r x k
    have h' : List.lookup x ((if (k₀ == NameKind.free && sc.kind == .function && sc.names.lookup n == some .cell) = true then (n, NameKind.cell) else (n, k₀)) :: (r.map _)) = some k := h
    cases hx : x == n with
    | true =>
      simp only [List.lookup_cons, hx]
      by_cases hc : (k₀ == NameKind.free && sc.kind == .function && sc.names.lookup n == some .cell) = true
      · rw [if_pos hc] at h'
        simp only [List.lookup_cons, hx] at h'
        cases h'
        simp only [Bool.and_eq_true, beq_iff_eq] at hc
        exact ⟨k₀, rfl, .inr ⟨hc.1.1, rfl⟩⟩
      · rw [if_neg hc] at h'
        simp only [List.lookup_cons, hx] at h'
        cases h'
        exact ⟨_, rfl, .inl rfl⟩
    | false =>
      simp only [List.lookup_cons, hx]
      by_cases hc : (k₀ == NameKind.free && sc.kind == .function && sc.names.lookup n == some .cell) = true
      · rw [if_pos hc] at h'
        simp only [List.lookup_cons, hx] at h'
        exact ih h'
      · rw [if_neg hc] at h'
        simp only [List.lookup_cons, hx] at h'
        exact ih h'
structure BlkOk (N : List Str) (sc scope : Scope) (own : List (Str × Nat)) : Prop where
  kind : scope.kind = .function
  uniq : ∀ y ∈ scope.names, scope.names.lookup y.1 = some y.2
  ix : ∀ p ∈ own, N[p.2]? = some p.1
  free : ∀ y ∈ scope.names, y.2 = .free → sc.names.lookup y.1 = some .cell ∨ sc.names.lookup y.1 = some .free
  own : ∀ y ∈ scope.names, y.2 = .local ∨ y.2 = .cell → y.1 ∈ own.map (·.1) ∨ y.1 ∉ N
def wipe (σ : St) : List Nat → St
  | [] => σ
  | v :: vs => (wipe σ vs).set v none
theorem wipe_length (σ : St) : ∀ vs : List Nat, (wipe σ vs).length = σ.length
  | [] => rfl
  | v :: vs => by unfold wipe; rw [List.length_set, wipe_length σ vs]
theorem wipe_some {σ : St} {i : Nat} {x : V} : ∀ {vs : List Nat}, (wipe σ vs)[i]? = some (some x) → σ[i]? = some (some x) ∧ i ∉ vs
  | [], h => ⟨h, by simp⟩
  | v :: vs, h => by
    unfold wipe at h
    by_cases hi : v = i
    · subst hi
      by_cases hv : v < (wipe σ vs).length
      · rw [List.getElem?_set_self hv] at h; cases h
      · rw [List.getElem?_eq_none (by simpa using hv)] at h; cases h
    · rw [List.getElem?_set_ne hi] at h
      obtain ⟨h1, h2⟩ := wipe_some h
      exact ⟨h1, by simp only [List.mem_cons, not_or]; exact ⟨fun e => hi e.symm, h2⟩⟩
abbrev Cx.blk (X : Cx) (s : Shared) (H : Hp) (scope : Scope) (cenv : Env) (fp : List Addr) : Cx := { X with s_0 := s, H_0 := H, env := cenv, outer := X.stack, ex := fp, fn := fun x => scope.names.lookup x == some .cell, pn := [], xe := fun _ _ => False }
section
variable {X : Cx} {pins : List (Addr × Obj)} {σ : St} {H : Hp} {s : Shared}
theorem block_start {scope : Scope} {own : List (Str × Nat)} {fp : List Addr} (I : Inv X pins σ H s) (ok : BlkOk X.N X.env.scope scope own) (hN : X.N.Nodup) (hfp : ∀ b ∈ fp, FpOk X pins H b ∧ b < s.heap.objs.size) :
    Inv (X.blk s H scope (compEnvC scope (cellsFrom (s.heap.objs.size + 1) scope.names (cloFrom X.env.cells scope.names [])) s.heap.objs.size X.env) fp) [] (wipe σ (own.map (·.2))) H { s with heap := pushCells (s.heap.push { cls := .type "dict", data := .dict #[] }) scope.names } := by
  have hfree : ∀ y ∈ scope.names, y.2 = .free → ∃ c, X.env.cells.lookup y.1 = some c := fun y hy e => by
    rcases ok.free y hy e with k | k
    · exact I.ok.has _ (.inl k)
    · exact I.ok.has _ (.inr k)
  generalize hcenv : compEnvC scope (cellsFrom (s.heap.objs.size + 1) scope.names (cloFrom X.env.cells scope.names [])) s.heap.objs.size X.env = cenv
  have kp : ∀ b o, s.heap.get? b = some o → (pushCells (s.heap.push { cls := .type "dict", data := .dict #[] }) scope.names).get? b = some o := fun b o e => pushCells_keeps _ _ _ _ (Heap.get?_push_of_some _ e)
  have hL : cenv.locals = s.heap.objs.size := by rw [← hcenv]; rfl
  have hcl : cenv.cells = cellsFrom (s.heap.objs.size + 1) scope.names (cloFrom X.env.cells scope.names []) := by rw [← hcenv]; rfl
  have hsc : cenv.scope = relS scope X.env.scope := by rw [← hcenv]; rfl
  rw [← Heap.size_push s.heap { cls := .type "dict", data := .dict #[] }] at hcl
  have cm : ∀ {y c}, (y, c) ∈ cloFrom X.env.cells scope.names [] → X.env.cells.lookup y = some c ∧ c < s.heap.objs.size := fun {y c} hm => by
    rcases cloFrom_mem hm with hm | ⟨h1, rfl⟩
    · cases hm
    · obtain ⟨c, hc⟩ := hfree _ h1 rfl
      rw [hc]
      obtain ⟨w, z⟩ := I.cell _ _ hc
      exact ⟨rfl, z.lt⟩
  have mem : ∀ {y c}, cenv.cells.lookup y = some c → (X.env.cells.lookup y = some c ∧ c < s.heap.objs.size) ∨ (s.heap.objs.size + 1 ≤ c ∧ CellAt (pushCells (s.heap.push { cls := .type "dict", data := .dict #[] }) scope.names) c none) := fun {y c} e => by
    rw [hcl] at e
    rcases cells_mem (PySem.mem_of_lookup e) with hm | ⟨_, h2, h3⟩
    · exact .inl (cm hm)
    · rw [Heap.size_push] at h2; exact .inr ⟨h2, h3⟩
  have look : ∀ {y}, scope.names.lookup y = some .free → ∃ c, cenv.cells.lookup y = some c ∧ X.env.cells.lookup y = some c := fun {y} hl => by
    have hy : (y, NameKind.free) ∈ scope.names := PySem.mem_of_lookup hl
    obtain ⟨c', e'⟩ := mem_lookup (cells_acc (names := scope.names) (n := (s.heap.push { cls := .type "dict", data := .dict #[] }).objs.size) (cloFrom_has (cells := X.env.cells) (acc := []) hy))
    rw [← hcl] at e'
    refine ⟨c', e', ?_⟩
    rw [hcl] at e'
    rcases cells_mem (PySem.mem_of_lookup e') with hm | ⟨h1, _, _⟩
    · exact (cm hm).1
    · have := ok.uniq _ h1
      rw [hl] at this; cases this
  have okB : (X.blk s H scope cenv fp).Ok := by
    refine ⟨I.ok.mod, by show cenv.scope.kind = _; rw [hsc]; exact ok.kind, by show cenv.globals = _; rw [← hcenv]; exact I.ok.glob, by show cenv.builtins = _; rw [← hcenv]; exact I.ok.blt, by show s.heap.objs.size ≤ cenv.locals; rw [hL]; exact Nat.le_refl _,
      fun y z c e1 e2 => ?_, fun y hy => ?_, fun y c z e => ?_, I.ok.hd, I.ok.frames, .inl rfl, fun b hb => ⟨?_, fun y c e z => ?_⟩, I.bs, Nat.le_trans I.ok.bsz I.sz, fun b o e hb => ?_, fun b hb z => ?_, I.stack, I.stkFree⟩
    · have e1 : cenv.cells.lookup y = some c := e1
      have e2 : cenv.cells.lookup z = some c := e2
      rw [hcl] at e1 e2
      refine cells_inj (fun p hp => ?_) (fun y z c a b => I.ok.inj y z c (cm a).1 (cm b).1) (PySem.mem_of_lookup e1) (PySem.mem_of_lookup e2)
      rw [Heap.size_push]
      exact Nat.lt_succ_of_lt (cm (y := p.1) (c := p.2) hp).2
    · show ∃ c, cenv.cells.lookup y = some c
      have key : ∀ k, cenv.kindOf y = some k → (k = .cell ∨ k = .free) → ∃ c, cenv.cells.lookup y = some c := fun k hk hk' => by
        unfold Env.kindOf at hk
        rw [hsc] at hk
        obtain ⟨k', e, r⟩ := lookup_relS hk
        have : k' = .cell ∨ k' = .free := by
          rcases r with rfl | ⟨rfl, _⟩
          · exact hk'
          · exact .inr rfl
        rcases this with rfl | rfl
        · obtain ⟨c, hm⟩ := cells_has (n := (s.heap.push { cls := .type "dict", data := .dict #[] }).objs.size) (acc := cloFrom X.env.cells scope.names []) (PySem.mem_of_lookup e)
          obtain ⟨c', e'⟩ := mem_lookup hm
          exact ⟨c', by rw [hcl]; exact e'⟩
        · obtain ⟨c, h1, _⟩ := look e
          exact ⟨c, h1⟩
      rcases hy with hy | hy
      · exact key _ hy (.inl rfl)
      · exact key _ hy (.inr rfl)
    · have z : (scope.names.lookup y == some NameKind.cell) = true := z
      have z : scope.names.lookup y = some .cell := by simpa using z
      have e : cenv.cells.lookup y = some c := e
      rw [hcl] at e
      rcases cells_mem (PySem.mem_of_lookup e) with hm | ⟨_, h2, _⟩
      · rcases cloFrom_mem hm with hm | ⟨h1, _⟩
        · cases hm
        · have q := ok.uniq _ h1
          rw [z] at q; cases q
      · rw [Heap.size_push] at h2
        exact Nat.le_of_succ_le h2
    · show b ≠ cenv.locals
      rw [hL]; exact Nat.ne_of_lt (hfp b hb).2
    · have e : cenv.cells.lookup y = some c := e
      rcases mem e with ⟨h1, _⟩ | ⟨h1, _⟩
      · exact (hfp b hb).1.2.2.2.2.1 y c h1 z
      · have h2 : s.heap.objs.size + 1 ≤ b := by rw [← z]; exact h1
        exact absurd (Nat.lt_of_lt_of_le (hfp b hb).2 (Nat.le_of_succ_le h2)) (Nat.lt_irrefl _)
    · rcases (hfp b hb).1.2.2.2.1 with z | z
      · exact I.ok.noex b o e z
      · exact absurd (Nat.lt_of_lt_of_le (Heap.lt_size e) (Nat.le_trans I.ok.bsz z)) (Nat.lt_irrefl _)
    · rcases List.mem_cons.mp (I.stkSub b z) with z | z
      · exact (hfp b hb).1.2.1 z
      · exact (hfp b hb).1.2.2.1 z
  refine ⟨okB, rfl, I.bare, Un.kept kp, ⟨fun _ => none, ?_, fun i y av e1 e2 e3 => ?_⟩, fun y c e => ?_, ?_, fun y c e => ?_, fun p hp => ?_, I.hok.kept kp, by rw [wipe_length]; exact I.len⟩
  · show Heap.Ns _ cenv.locals _
    rw [hL]
    exact Heap.Ns.keeps (Heap.Ns.new ..) fun b o e => pushCells_keeps _ _ _ _ e
  · obtain ⟨e2, hne⟩ := wipe_some e2
    have hfr : scope.names.lookup y = some .free ∧ (cenv.kindOf y = some .cell ∨ cenv.kindOf y = some .free) := by
      have key : ∀ k, cenv.scope.names.lookup y = some k → k = .local ∨ k = .cell ∨ k = .free → scope.names.lookup y = some .free ∧ (cenv.kindOf y = some .cell ∨ cenv.kindOf y = some .free) := fun k hk hk' => by
        have hk0 := hk
        rw [hsc] at hk
        obtain ⟨k', e, r⟩ := lookup_relS hk
        have no : ¬ (k' = .local ∨ k' = .cell) := fun hh => by
          rcases ok.own _ (PySem.mem_of_lookup e) hh with e' | e'
          · obtain ⟨p, hp, hpy⟩ := List.mem_map.mp e'
            have e3 := ok.ix p hp
            have : p.1 = y := hpy
            rw [this] at e3
            exact hne (List.mem_map.mpr ⟨p, hp, nodup_ix hN e3 e1⟩)
          · exact e' (List.mem_of_getElem? e1)
        rcases r with rfl | ⟨rfl, rfl⟩
        · rcases hk' with rfl | rfl | rfl
          · exact absurd (.inl rfl) no
          · exact absurd (.inr rfl) no
          · exact ⟨e, .inr hk0⟩
        · exact ⟨e, .inl hk0⟩
      have e3 : Vis cenv.scope y := e3
      rcases e3 with e3 | e3 | e3
      · exact key _ e3 (.inl rfl)
      · exact key _ e3 (.inr (.inl rfl))
      · exact key _ e3 (.inr (.inr rfl))
    obtain ⟨m, hn, hl⟩ := I.loc
    have hvis : Vis X.env.scope y := (ok.free _ (PySem.mem_of_lookup hfr.1) rfl).elim (fun k => .inr (.inl k)) (fun k => .inr (.inr k))
    obtain ⟨w, r, q⟩ := hl i y av e1 e2 hvis
    refine ⟨w, r, .inr ⟨hfr.2, ?_⟩⟩
    obtain ⟨c, h1, h2⟩ := look hfr.1
    rcases q with ⟨k, _⟩ | ⟨_, c', e', z⟩
    · have k : X.env.scope.names.lookup y = some .local := k
      rcases ok.free _ (PySem.mem_of_lookup hfr.1) rfl with k' | k' <;> rw [show X.env.scope.names.lookup y = _ from k'] at k <;> cases k
    · rw [h2] at e'; cases e'
      exact ⟨c, h1, z.keeps kp⟩
  · have e : cenv.cells.lookup y = some c := e
    rcases mem e with ⟨h1, _⟩ | ⟨_, z⟩
    · obtain ⟨w, z⟩ := I.cell y c h1
      exact ⟨w, z.keeps kp⟩
    · exact ⟨_, z⟩
  · show H cenv.locals = none
    rw [hL]; exact I.hok.fresh (Nat.le_refl _)
  · have e : cenv.cells.lookup y = some c := e
    rcases mem e with ⟨h1, _⟩ | ⟨h1, _⟩
    · exact I.freeC y c h1
    · exact I.hok.fresh (Nat.le_of_succ_le h1)
  · exact absurd (show p ∈ ([] : List (Addr × Obj)) ++ [] from hp) (by simp)
theorem app_ok {E : Value → Shared → Prop} {D : Addr} {xs : List V} {y : V} {v : Value} {Q : Value → Shared → Prop} (I : Inv X pins σ H s) (hD : H D = some (.lst xs)) (hz : xs.length < sizeLine) (r : RelV y v)
    (h : ∀ s', Inv X pins σ (upd H D (.lst (xs ++ [y]))) s' → Q .none s') : wpAny (model X.prog X.w) X.A (call (.builtin "list.append") [.ref D, v]) Q E s := by
  obtain ⟨hz', its, n, ri, e⟩ := I.hok D _ hD
  have hl := ri.length
  refine append_at (hsz := by rw [List.size_toArray]; omega) e fun h' sb ho' => ?_
  refine h { s with heap := h' } (I.write (t' := s.toks) (by rw [hD]; trivial) (.inl rfl) (fun b u hb q => (sb.2 b hb).trans q) ⟨_, ho'⟩ ⟨by rw [List.length_append]; exact hz, its ++ [v], n + 1, ri.append (.cons r .nil), ?_⟩)
  rw [ho']
  simp
def PTs (X : Cx) (ifs : List Expr) (t : TT) : Prop :=
  ∀ (pins : List (Addr × Obj)) (s : Shared) (σ : St) (H : Hp) (Q : Bool → Hp → Prop), Inv X pins σ H s → t σ H Q →
    wpAny (model X.prog X.w) X.A (forIn ifs true fun c r => if r = true then do let ok ← isTrue c X.env (eval c X.env); pure (ForInStep.yield ok) else pure (ForInStep.yield r)) (TP X pins σ Q) X.xe s
theorem pts_one {c : Expr} {t : TT} (h : PT X c t) : PTs X [c] t := fun pins s σ H Q I hw => wpAny_tests_one (h pins s σ H Q I hw)
end
theorem thnF {α : Type} {t : Sem α} {Q Q' : α → Shared → Prop} {M : Model} {A : Around} {E : Value → Shared → Prop} {s : Shared} (h : wpAny M A t Q (fun _ _ => False) s) (hQ : ∀ a s, Q a s → Q' a s) : wpAny M A t Q' E s := wpAny_mono h hQ fun _ _ z => False.elim z
theorem compLoop_any {prog : Program} {w : World} {A : Around} {R : Result → Shared → Prop} {s : Shared} {elt target iter : Expr} {ifs : List Expr} {scope : Scope} {pos : Pos} {it acc : Value} {env : Env} (I : Nat → Shared → Prop)
    (turn : ∀ n s, I n s → wpAny (model prog w) A (pyNext it) (fun r s₁ => match r with
      | none => R (.ok .next) s₁
      | some v => wpAny (model prog w) A (letOwnedTupleGo target it v) (fun _ s₁' => wpAny (model prog w) A (assign target env v) (fun _ s₂ =>
          wpAny (model prog w) A (forIn ifs true fun c r => if r = true then do let ok ← isTrue c env (eval c env); pure (ForInStep.yield ok) else pure (ForInStep.yield r)) (fun ok s₃ =>
            if ok = true then wpAny (model prog w) A (eval elt env) (fun x s₄ =>
              wpAny (model prog w) A (call (.builtin "list.append") [acc, x]) (fun _ s₅ => ∃ m, m < n ∧ I m s₅) (notedBy (model prog w) A env fun e s' => R (.error e) s') s₄) (notedBy (model prog w) A env fun e s' => R (.error e) s') s₃
            else ∃ m, m < n ∧ I m s₃) (notedBy (model prog w) A env fun e s' => R (.error e) s') s₂) (notedBy (model prog w) A env fun e s' => R (.error e) s') s₁') (notedBy (model prog w) A env fun e s' => R (.error e) s') s₁) (notedBy (model prog w) A env fun e s' => R (.error e) s') s)
    (n : Nat) (h : I n s) :
    codeAny (model prog w) A (.compLoop (.ListComp elt [⟨target, iter, ifs, 0⟩] scope pos) 0 it acc env) R s := by
  refine codeAny_loop rfl I (fun n s hI => ?_) n h
  show wpAny _ A ((compTurn (.ListComp elt [⟨target, iter, ifs, 0⟩] scope pos) 0 it acc env).onRaise (fun x => do noteFrame x env; theTreesLotGoes x)) _ _ s
  refine wpAny_noted ?_
  rw [compTurn_list]
  refine wpAny_bind (wpAny_standAt (wpAny_bind (wpAny_mono (turn n s hI) (fun r s₁ h₁ => ?_) fun _ _ h' => h')))
  cases r with
  | none => exact wpAny_pure h₁
  | some v =>
    refine wpAny_bind (wpAny_mono h₁ (fun _ s₁' h₁' => ?_) fun _ _ h' => h')
    refine wpAny_bind (wpAny_mono h₁' (fun _ s₂ h₂ => wpAny_bind (wpAny_mono h₂ (fun ok s₃ h₃ => ?_) fun _ _ h' => h')) fun _ _ h' => h')
    cases ok with
    | false => exact wpAny_pure ⟨rfl, h₃⟩
    | true =>
      exact wpAny_bind (wpAny_bind (wpAny_mono h₃ (fun x s₄ h₄ => wpAny_bind (wpAny_mono h₄ (fun _ s₅ h₅ => wpAny_pure (wpAny_pure ⟨rfl, h₅⟩)) fun _ _ h' => h')) fun _ _ h' => h'))
section
variable {X : Cx}
def tLc (wi : TI) (g : TG) (tt : TT) (te : TE) (vs : List Nat) : TE := fun σ H Q => wi σ H fun J H1 => ∀ D, H1 D = none → ∃ W : Nat → Nat → Hp → Prop, (∃ m, W 0 m (upd H1 D (.lst []))) ∧ ∀ i m H, W i m H →
  (J.stop i H ∧ Q (.ref D) H) ∨ (J.go i H ∧ ∃ Nx : Hp → Prop, (∀ H', Nx H' → ∃ m', m' < m ∧ W (i + 1) m' H') ∧ ∀ x H', J.yld i H x H' → g x (wipe σ vs) H' fun σ2 H2 => wipe σ2 vs = wipe σ vs ∧ tt σ2 H2 fun b H3 =>
    if b = true then te σ2 H3 fun y H4 => ∃ acc, H4 D = some (.lst acc) ∧ acc.length < sizeLine ∧ Nx (upd H4 D (.lst (acc ++ [y]))) else Nx H3)
theorem lc_core {pins : List (Addr × Obj)} {s : Shared} {σ : St} {H : Hp} {Q : VK} {elt tg iter : Expr} {ifs : List Expr} {scope : Scope} {own : List (Str × Nat)} {pos pos' : Pos} {wi : TI} {g : TG} {tt : TT} {te : TE} {use : Option (Value → Sem Unit)} {Qf : Value → Shared → Prop}
    (hc : X.calm = true) (hN : X.N.Nodup) (I : Inv X pins σ H s) (hi : PI X tg iter wi) (ok : BlkOk X.N X.env.scope scope own)
    (hg : ∀ (s : Shared) (H : Hp) (C : Addr) (cl : List (Str × Addr)) (fp : List Addr), PG (X.blk s H scope (compEnvC scope cl C X.env) fp) tg g) (ht : ∀ (s : Shared) (H : Hp) (C : Addr) (cl : List (Str × Addr)) (fp : List Addr), PTs (X.blk s H scope (compEnvC scope cl C X.env) fp) ifs tt)
    (he : ∀ (s : Shared) (H : Hp) (C : Addr) (cl : List (Str × Addr)) (fp : List Addr), PE (X.blk s H scope (compEnvC scope cl C X.env) fp) elt te) (hs : ∀ x, foldedSetIterable iter X.env x = pure x)
    (h : tLc wi g tt te (own.map (·.2)) σ H Q)
    (hRR : ∀ D C s' m H', Inv X pins σ H' s' → Q (.ref D) H' → s'.heap.Ns C m → FpOk X pins H' C → compPost (model X.prog X.w) X.A X.xe use Qf (.ref D) C (.ok .next) s') :
    wpAny (model X.prog X.w) X.A (comprehension (.ListComp elt [⟨tg, iter, ifs, 0⟩] scope pos) scope X.env pos' (newList []) false (eval iter X.env) use) Qf X.xe s := by
  have hfree : ∀ y ∈ scope.names, y.2 = .free → ∃ c, X.env.cells.lookup y.1 = some c := fun y hy e => by
    rcases ok.free y hy e with k | k
    · exact I.ok.has _ (.inl k)
    · exact I.ok.has _ (.inr k)
  refine wpAny_comprehension_free (use := use) rfl hs (closure_ok hfree) ok.kind (fun y hy e => by rw [ok.uniq y hy, e])
    (thn (hi pins s σ H _ I h) fun xv s1 hx => thn hx fun itv s2 h2 => ?_)
  obtain ⟨it, fp, tn, J, H2, e, I2, T, st2, f2, q⟩ := h2
  subst e
  refine wpAny_newObj_type (newEnv_comp ?_) (by show 0 ≤ sizeLine; decide)
  generalize hD : s2.heap.objs.size = D
  have hDn : H2 D = none := I2.hok.fresh (Nat.le_of_eq hD)
  obtain ⟨W, ⟨m0, w0⟩, turn⟩ := q D hDn
  -- the new list
  generalize hs3 : ({ s2 with heap := s2.heap.push { cls := .type "list", data := .seq ([] : List Value).toArray } } : Shared) = s3
  have I3 : Inv X pins σ (upd H2 D (.lst [])) s3 := by
    rw [← hs3]
    refine I2.laid (t' := s2.toks) (fun b o e => Heap.get?_push_of_some _ e) (Nat.le_of_eq hD) ⟨Nat.zero_le _, [], 0, .nil, ?_⟩
    rw [← hD]
    exact Heap.get?_push_size _ rfl
  have h3 : s3.heap = s2.heap.push { cls := .type "list", data := .seq ([] : List Value).toArray } := by rw [← hs3]
  have sz : ∀ b ∈ fp, b < s2.heap.objs.size := fun b hb => by
    obtain ⟨o, e, _⟩ := T.obj _ _ st2 b hb
    exact Heap.lt_size e
  have f3 : ∀ b ∈ fp, FpOk X pins (upd H2 D (.lst [])) b ∧ b < s3.heap.objs.size := fun b hb => by
    have hlt := sz b hb
    refine ⟨⟨?_, (f2 b hb).2⟩, by rw [h3, Heap.size_push]; exact Nat.lt_succ_of_lt hlt⟩
    rw [upd_ne (by rw [← hD]; exact Nat.ne_of_lt hlt)]
    exact (f2 b hb).1
  have st3 : tn 0 s3.heap := T.keep _ _ _ st2 fun b _ o e => by rw [h3]; exact Heap.get?_push_of_some _ e
  have I4 := block_start I3 ok hN f3
  have pg := hg s3 (upd H2 D (.lst [])) s3.heap.objs.size (cellsFrom (s3.heap.objs.size + 1) scope.names (cloFrom X.env.cells scope.names [])) fp
  have pt := ht s3 (upd H2 D (.lst [])) s3.heap.objs.size (cellsFrom (s3.heap.objs.size + 1) scope.names (cloFrom X.env.cells scope.names [])) fp
  have pe := he s3 (upd H2 D (.lst [])) s3.heap.objs.size (cellsFrom (s3.heap.objs.size + 1) scope.names (cloFrom X.env.cells scope.names [])) fp
  show codeAny _ _ (.compStart (.ListComp elt [⟨tg, iter, ifs, 0⟩] scope pos) 0 (.ref it) (.ref D) (compEnvC scope (cellsFrom (s3.heap.objs.size + 1) scope.names (cloFrom X.env.cells scope.names [])) s3.heap.objs.size X.env)) (compPost (model X.prog X.w) X.A X.xe use Qf (.ref D) s3.heap.objs.size) { s3 with heap := pushCells (s3.heap.push { cls := .type "dict", data := .dict #[] }) scope.names }
  have nfp : ∀ b ∈ fp, (upd H2 D (.lst [])) b = none := fun b hb => (f3 b hb).1.1
  generalize hce : compEnvC scope (cellsFrom (s3.heap.objs.size + 1) scope.names (cloFrom X.env.cells scope.names [])) s3.heap.objs.size X.env = ce at I4 pg pt pe ⊢
  have cL : ce.locals = s3.heap.objs.size := by subst hce; rfl
  generalize hH3 : upd H2 D (.lst []) = H3 at I3 I4 pg pt pe w0 nfp f3
  generalize hs4 : ({ s3 with heap := pushCells (s3.heap.push { cls := .type "dict", data := .dict #[] }) scope.names } : Shared) = s4 at I4 ⊢
  have st4 : tn 0 s4.heap := T.keep _ _ _ st3 fun b _ o e => by rw [← hs4]; exact pushCells_keeps _ _ _ _ (Heap.get?_push_of_some _ e)
  have stat : ∀ {σ' : St} {H' : Hp} {s' : Shared}, Inv (X.blk s3 H3 scope ce fp) [] σ' H' s' → (∀ b ∈ fp, H' b = none) → ∀ b ∈ fp, FpOk (X.blk s3 H3 scope ce fp) [] H' b := fun {σ' H' s'} I' hn b hb =>
    ⟨hn b hb, (I'.ok.exf b hb).1, I'.ok.exfs b hb, .inl hb, fun x c e => (I'.ok.exf b hb).2 x c e, fun p hp => absurd (show p ∈ ([] : List (Addr × Obj)) ++ [] from hp) (by simp)⟩
  have loop : codeAny (model X.prog X.w) X.A (.compLoop (.ListComp elt [⟨tg, iter, ifs, 0⟩] scope pos) 0 (.ref it) (.ref D) ce) (compPost (model X.prog X.w) X.A X.xe use Qf (.ref D) s3.heap.objs.size) s4 := by
    refine compLoop_any (fun n s' => ∃ i H', Inv (X.blk s3 H3 scope ce fp) [] (wipe σ (own.map (·.2))) H' s' ∧ tn i s'.heap ∧ (∀ b ∈ fp, H' b = none) ∧ W i n H') ?_ m0 ⟨0, H3, I4, st4, nfp, w0⟩
    rintro n s5 ⟨i, H5, I5, st5, n5, w5⟩
    rcases turn i n H5 w5 with ⟨stop, qq⟩ | ⟨go, Nx, hNx, step⟩
    · have td := T.done (X.blk s3 H3 scope ce fp) rfl rfl rfl hc i [] s5 _ H5 (fun _ _ => False) I5 (stat I5 n5) st5 stop
      refine thnF td fun r s6 ⟨hr, I6⟩ => ?_
      subst hr
      -- back in the def's context
      have I7 : Inv X pins σ H5 s6 := I3.call' (ch := fp) I6.os I6.base I6.hok I6.bare fun b hb => ⟨(f3 b hb).1.2.2.2.1, (f3 b hb).1.2.1, (f3 b hb).1.2.2.2.2.1, (f3 b hb).1.2.2.2.2.2⟩
      have nC : H5 s3.heap.objs.size = none := by
        have z : H5 ce.locals = none := I6.free
        rw [cL] at z
        exact z
      obtain ⟨m, hn, _⟩ := I6.loc
      have hn : s6.heap.Ns ce.locals m := hn
      rw [cL] at hn
      exact hRR D s3.heap.objs.size s6 m H5 I7 qq hn (I3.fpOk (Nat.le_refl _) nC)
    · have ti := T.item (X.blk s3 H3 scope ce fp) rfl rfl rfl hc i [] s5 _ H5 (fun _ _ => False) I5 (stat I5 n5) st5 go
      refine thnF ti fun r s6 ⟨u, hr, h6⟩ => ?_
      subst hr
      refine thnF h6 fun _ s7 ⟨x, H7, I7, r7, y7, st7, n7⟩ => ?_
      have I7' := I7.pinned (stat I7 n7) (T.obj _ _ st7)
      refine thnF (pg _ s7 _ H7 x u _ I7' r7 (step x H7 y7)) fun _ s8 ⟨σ8, H8, I8, hw8, q8⟩ => ?_
      refine thnF (pt _ s8 σ8 H8 _ I8 q8) fun b s9 ⟨H9, I9, q9⟩ => ?_
      -- the turn's end
      have fin : ∀ {s' : Shared} {H' : Hp}, Inv (X.blk s3 H3 scope ce fp) ([] ++ pinsAt fp s7.heap) σ8 H' s' → Nx H' → ∃ m, m < n ∧ ∃ i H', Inv (X.blk s3 H3 scope ce fp) [] (wipe σ (own.map (·.2))) H' s' ∧ tn i s'.heap ∧ (∀ b ∈ fp, H' b = none) ∧ W i m H' := fun {s' H'} I' nx => by
        obtain ⟨m', hm, w'⟩ := hNx H' nx
        have pin' : ∀ b ∈ fp, ∀ o, s7.heap.get? b = some o → s'.heap.get? b = some o ∧ H' b = none := fun b hb o e =>
          let z := I'.pin (b, o) (List.mem_append_right _ (List.mem_append_right _ (mem_pinsAt hb e)))
          ⟨z.1, z.2.1⟩
        have hl : (wipe σ (own.map (·.2))).length = σ8.length := by rw [← hw8, wipe_length]
        refine ⟨m', hm, i + 1, H', (I'.unpinned (pins := [])).weak hl (fun j v e => ?_), T.keep _ _ _ st7 fun b hb o e => (pin' b hb o e).1, fun b hb => ?_, w'⟩
        · rw [← hw8] at e
          exact (wipe_some e).1
        · obtain ⟨o, e, _⟩ := T.obj _ _ st7 b hb
          exact (pin' b hb o e).2
      cases b with
      | false =>
        simp only [Bool.false_eq_true, if_false] at q9 ⊢
        exact fin I9 q9
      | true =>
        simp only [if_true] at q9 ⊢
        refine thnF (pe _ s9 σ8 H9 _ I9 q9) fun z s10 ⟨yv, H10, I10, r10, acc, hD10, hz10, nx⟩ => ?_
        exact app_ok (X := X.blk s3 H3 scope ce fp) I10 hD10 hz10 r10 fun s11 I11 => fin I11 nx
  exact codeAny_compStart_list loop (T.self X.A 0 _ _ _ st4 loop)
theorem pe_lc {elt tg iter : Expr} {ifs : List Expr} {scope : Scope} {own : List (Str × Nat)} {pos : Pos} {wi : TI} {g : TG} {tt : TT} {te : TE} (hc : X.calm = true) (hN : X.N.Nodup) (hi : PI X tg iter wi) (ok : BlkOk X.N X.env.scope scope own)
    (hg : ∀ (s : Shared) (H : Hp) (C : Addr) (cl : List (Str × Addr)) (fp : List Addr), PG (X.blk s H scope (compEnvC scope cl C X.env) fp) tg g) (ht : ∀ (s : Shared) (H : Hp) (C : Addr) (cl : List (Str × Addr)) (fp : List Addr), PTs (X.blk s H scope (compEnvC scope cl C X.env) fp) ifs tt)
    (he : ∀ (s : Shared) (H : Hp) (C : Addr) (cl : List (Str × Addr)) (fp : List Addr), PE (X.blk s H scope (compEnvC scope cl C X.env) fp) elt te) (hs : ∀ x, foldedSetIterable iter X.env x = pure x := by intro _; rfl) :
    PE X (.ListComp elt [⟨tg, iter, ifs, 0⟩] scope pos) (tLc wi g tt te (own.map (·.2))) := by
  intro pins s σ H Q I h
  rw [eval_ListComp]
  refine lc_core hc hN I hi ok hg ht he hs h fun D C s' m H' I' q hn f => ⟨m, hn, fun h'' sb => ?_⟩
  obtain ⟨f0, f1, f2, f3, f4, f5⟩ := f
  exact ⟨.ref D, H', I'.turned (t' := s'.toks) (fun b o hb e => (sb.2 b hb).trans e) f0 f1 f3 f4 f5, rfl, q⟩
theorem ps_setLc {i : Nat} {y : Str} {py : Pos} {elt tg iter : Expr} {ifs : List Expr} {scope : Scope} {own : List (Str × Nat)} {pos spos : Pos} {wi : TI} {g : TG} {tt : TT} {te : TE} (hc : X.calm = true) (hN : X.N.Nodup) (hy : X.N[i]? = some y) (hyl : X.env.scope.names.lookup y = some .local)
    (hsw : swapsWith (.ListComp elt [⟨tg, iter, ifs, 0⟩] scope pos) (some (.Name y py)) spos.line X.env = pure true) (hi : PI X tg iter wi) (ok : BlkOk X.N X.env.scope scope own)
    (hg : ∀ (s : Shared) (H : Hp) (C : Addr) (cl : List (Str × Addr)) (fp : List Addr), PG (X.blk s H scope (compEnvC scope cl C X.env) fp) tg g) (ht : ∀ (s : Shared) (H : Hp) (C : Addr) (cl : List (Str × Addr)) (fp : List Addr), PTs (X.blk s H scope (compEnvC scope cl C X.env) fp) ifs tt)
    (he : ∀ (s : Shared) (H : Hp) (C : Addr) (cl : List (Str × Addr)) (fp : List Addr), PE (X.blk s H scope (compEnvC scope cl C X.env) fp) elt te) (hs : ∀ x, foldedSetIterable iter X.env x = pure x := by intro _; rfl) :
    PS X (.Assign [.Name y py] (.ListComp elt [⟨tg, iter, ifs, 0⟩] scope pos) spos) (tAsg (tLc wi g tt te (own.map (·.2))) (gName i)) := by
  intro pins s σ H D I h
  rw [exec_Assign_Name_used _ _ _ _ hsw]
  refine wpAny_bind (wpAny_standAt (wpAny_bind ?_))
  show wpAny _ X.A (do let _ ← comprehension (.ListComp elt [⟨tg, iter, ifs, 0⟩] scope pos) scope X.env (firstIterPos [⟨tg, iter, ifs, 0⟩] pos) (newList []) false (eval iter X.env) (some (assign (.Name y py) X.env))) _ _ s
  have h : tLc wi g tt te (own.map (·.2)) σ H (fun x H1 => gName i x σ H1 D.nx) := h
  refine wpAny_bind (thn (lc_core (Qf := fun _ s' => SP X pins D .next s') hc hN I hi ok hg ht he hs h fun L C s' m H' I' q hn f => ?_) fun _ s' hq => wpAny_pure (wpAny_pure hq))
  show wpAny _ _ (assign (.Name y py) X.env (.ref L)) _ _ _
  refine wpAny_assign_Name (store_ok2 (v := V.ref L) I' hN hy (.inl hyl) rfl (fun s2 I2 ⟨a, sb, ha⟩ => ?_) (.inr hyl))
  obtain ⟨f0, f1, f2, f3, f4, f5⟩ := f
  have haC : C ≠ a := by
    rcases ha with z | z
    · rw [z]; exact f1
    · exact fun e => f4 y a z e.symm
  refine ⟨m, hn.sameBut sb haC, fun h3 sb3 => ?_⟩
  exact ⟨_, H', I2.turned (t' := s2.toks) (fun b o hb e => (sb3.2 b hb).trans e) f0 f1 f3 f4 f5, q⟩
theorem sw_true {elt : Expr} {gs : List Comprehension} {scope : Scope} {pos py : Pos} {y : Str} {l : Nat} {env : Env} (hk : env.scope.kind = .function) (hy : env.scope.names.lookup y = some .local) (hl : (py.line == pos.line) = true)
    (ha : (scope.names.any fun (n, k) => n == y && (k == .local || k == .cell)) = false) : swapsWith (.ListComp elt gs scope pos) (some (.Name y py)) l env = pure true := by
  have ky : env.kindOf y = some .local := hy
  have hb : env.blockKind = .function := by unfold Env.blockKind; rw [hk]; rfl
  unfold swapsWith
  simp only [hb, ky, ha, Expr.pos, hl]
  rfl
end
theorem lc_list {K : PySem.W.Frag} {a : Addr} {xs : List V} {g : TG} {tt : TT} {te : TE} {vs : List Nat} {σ : St} {H1 : Hp} {D : Addr} {Qd : Hp → Prop} (Pv : Nat → Hp → Prop) (h0 : Pv 0 (upd H1 D (.lst []))) (hl : ∀ i H, i ≤ xs.length → Pv i H → SqL K H a xs)
    (hs : ∀ i x H, xs[i]? = some x → Pv i H → g x (wipe σ vs) H fun σ2 H2 => wipe σ2 vs = wipe σ vs ∧ tt σ2 H2 fun b H3 =>
      if b = true then te σ2 H3 fun y H4 => ∃ acc, H4 D = some (.lst acc) ∧ acc.length < sizeLine ∧ Pv (i + 1) (upd H4 D (.lst (acc ++ [y]))) else Pv (i + 1) H3) (hd : ∀ H, Pv xs.length H → Qd H) :
    ∃ W : Nat → Nat → Hp → Prop, (∃ m, W 0 m (upd H1 D (.lst []))) ∧ ∀ i m H, W i m H →
      ((Itl K a).stop i H ∧ Qd H) ∨ ((Itl K a).go i H ∧ ∃ Nx : Hp → Prop, (∀ H', Nx H' → ∃ m', m' < m ∧ W (i + 1) m' H') ∧ ∀ x H', (Itl K a).yld i H x H' → g x (wipe σ vs) H' fun σ2 H2 => wipe σ2 vs = wipe σ vs ∧ tt σ2 H2 fun b H3 =>
        if b = true then te σ2 H3 fun y H4 => ∃ acc, H4 D = some (.lst acc) ∧ acc.length < sizeLine ∧ Nx (upd H4 D (.lst (acc ++ [y]))) else Nx H3) := by
  refine ⟨fun i m H => m = xs.length - i ∧ i ≤ xs.length ∧ Pv i H, ⟨xs.length, by simp, Nat.zero_le _, h0⟩, ?_⟩
  rintro i m H ⟨rfl, hi, p⟩
  have q := hl i H hi p
  by_cases hlt : i < xs.length
  · refine .inr ⟨⟨xs, xs[i], q, by simp [hlt]⟩, Pv (i + 1), fun H' p' => ⟨xs.length - (i + 1), by omega, rfl, hlt, p'⟩, fun x H' y => ?_⟩
    obtain ⟨e, y⟩ := y
    subst e
    exact hs i x _ (y xs q) p
  · have e : i = xs.length := by omega
    subst e
    exact .inl ⟨⟨xs, q, Nat.le_refl _⟩, hd H p⟩
def blkC (N : List Str) (sc scope : Scope) (own : List (Str × Nat)) : Bool :=
  (match scope.kind with | .function => true | _ => false) && (scope.names.all fun y => decide (scope.names.lookup y.1 = some y.2)) && (own.all fun p => decide (N[p.2]? = some p.1)) &&
    (scope.names.all fun y => match y.2 with
      | .free => (match sc.names.lookup y.1 with | some .cell => true | some .free => true | _ => false)
      | .local => decide (y.1 ∈ own.map (·.1)) || decide (y.1 ∉ N)
      | .cell => decide (y.1 ∈ own.map (·.1)) || decide (y.1 ∉ N)
      | _ => true)
theorem blkOk_by {N : List Str} {sc scope : Scope} {own : List (Str × Nat)} (h : blkC N sc scope own = true) : BlkOk N sc scope own := by
  unfold blkC at h
  simp only [Bool.and_eq_true, List.all_eq_true, decide_eq_true_eq] at h
  obtain ⟨⟨⟨h1, h2⟩, h3⟩, h4⟩ := h
  refine ⟨?_, h2, h3, fun y hy e => ?_, fun y hy e => ?_⟩
  · split at h1
    · assumption
    · cases h1
  · have q := h4 y hy
    simp only [e] at q
    split at q <;> first | exact .inl (by assumption) | exact .inr (by assumption) | cases q
  · have q := h4 y hy
    rcases e with e | e <;> (simp only [e, Bool.or_eq_true, decide_eq_true_eq] at q; exact q)
end L2
namespace L2
open PySem PySem.Spec PyProof.Rows
section
variable {prog : Program} {w : World} {A : Around} {R : Result → Shared → Prop} {s : Shared} {elt t0 i0 t1 i1 : Expr} {ifs0 ifs1 : List Expr} {scope : Scope} {pos : Pos} {it acc : Value} {env : Env}
end
section
variable {X : Cx}
end
end L2
namespace L2
open PySem PySem.Spec PyProof.Rows
section
variable {κ : Type} [DecidableEq κ]
def valV (kvs : List (κ × V)) (k : κ) : Option V := (kvs.find? fun kv => decide (kv.1 = k)).map (·.2)
def putK (kvs : List (κ × V)) (k : κ) (v : V) : List (κ × V) :=
  if (kvs.any fun kv => decide (kv.1 = k)) = true then kvs.map (fun kv => if kv.1 = k then (kv.1, v) else kv) else kvs ++ [(k, v)]
def dropK (kvs : List (κ × V)) (k : κ) : List (κ × V) := kvs.filter fun kv => decide (kv.1 ≠ k)
theorem valV_pos {p : κ × V} {r : List (κ × V)} {k : κ} (e : p.1 = k) : valV (p :: r) k = some p.2 := by simp [valV, List.find?_cons, e]
theorem valV_neg {p : κ × V} {r : List (κ × V)} {k : κ} (e : ¬ p.1 = k) : valV (p :: r) k = valV r k := by simp [valV, List.find?_cons, e]
theorem valV_any (k : κ) : ∀ kvs : List (κ × V), (kvs.any fun kv => decide (kv.1 = k)) = (valV kvs k).isSome
  | [] => rfl
  | p :: r => by
    rw [List.any_cons]
    by_cases e : p.1 = k
    · simp only [valV_pos e, decide_eq_true e, Bool.true_or, Option.isSome_some]
    · rw [valV_neg e, decide_eq_false e, Bool.false_or]; exact valV_any k r
theorem length_putK (kvs : List (κ × V)) (k : κ) (v : V) : (putK kvs k v).length ≤ kvs.length + 1 := by
  unfold putK
  split
  · rw [List.length_map]; omega
  · rw [List.length_append, List.length_cons, List.length_nil]; omega
theorem putK_new {kvs : List (κ × V)} {k : κ} (v : V) (h : valV kvs k = none) : putK kvs k v = kvs ++ [(k, v)] := by
  unfold putK
  rw [valV_any, h]
  exact if_neg (by decide)
theorem RelO.isSome_eq {o : Option V} {u : Option Value} (r : RelO o u) : o.isSome = u.isSome := by
  cases o with
  | none => cases u with
    | none => rfl
    | some _ => exact (show False from r).elim
  | some _ => cases u with
    | none => exact (show False from r).elim
    | some _ => rfl
theorem RelO.getD {o : Option V} {u : Option Value} {d : V} {d' : Value} (r : RelO o u) (rd : RelV d d') : RelV (o.getD d) (u.getD d') := by
  cases o with
  | none => cases u with
    | none => exact rd
    | some _ => exact (show False from r).elim
  | some _ => cases u with
    | none => exact (show False from r).elim
    | some _ => exact r
theorem KV.val {kvs : List (κ × V)} {vs : List (κ × Value)} (r : KV kvs vs) (k : κ) : RelO (valV kvs k) (valueAt vs k) := by
  unfold KV at r
  induction r with
  | nil => exact True.intro
  | @cons p q ps qs h t ih =>
    obtain ⟨h1, h2⟩ := h
    by_cases e : p.1 = k
    · have e' : q.1 = k := h1.symm.trans e
      have b : valueAt (q :: qs) k = some q.2 := by simp [valueAt, List.find?_cons, e']
      rw [valV_pos e, b]; exact h2
    · have e' : ¬ q.1 = k := fun z => e (h1.trans z)
      have b : valueAt (q :: qs) k = valueAt qs k := by simp [valueAt, List.find?_cons, e']
      rw [valV_neg e, b]; exact ih
theorem KV.any {kvs : List (κ × V)} {vs : List (κ × Value)} (r : KV kvs vs) (k : κ) : (kvs.any fun kv => decide (kv.1 = k)) = vs.any fun kv => decide (kv.1 = k) := by
  unfold KV at r
  induction r with
  | nil => rfl
  | cons h t ih => rw [List.any_cons, List.any_cons, ih, h.1]
theorem KV.repl {kvs : List (κ × V)} {vs : List (κ × Value)} (r : KV kvs vs) (k : κ) {y : V} {u : Value} (ry : RelV y u) :
    KV (kvs.map fun kv => if kv.1 = k then (kv.1, y) else kv) (vs.map fun kv => if kv.1 = k then (kv.1, u) else kv) := by
  unfold KV at r ⊢
  induction r with
  | nil => exact .nil
  | @cons p q ps qs h t ih =>
    rw [List.map_cons, List.map_cons]
    refine .cons ?_ ih
    obtain ⟨h1, h2⟩ := h
    by_cases e : p.1 = k
    · rw [if_pos e, if_pos (h1.symm.trans e)]; exact ⟨h1, ry⟩
    · rw [if_neg e, if_neg (fun z => e (h1.trans z))]; exact ⟨h1, h2⟩
theorem KV.put {kvs : List (κ × V)} {vs : List (κ × Value)} (r : KV kvs vs) (k : κ) {y : V} {u : Value} (ry : RelV y u) : KV (putK kvs k y) (stored vs k u) := by
  unfold putK stored
  rw [r.any k]
  by_cases e : (vs.any fun kv => decide (kv.1 = k)) = true
  · rw [if_pos e, if_pos e]; exact r.repl k ry
  · rw [if_neg e, if_neg e]; exact Paired.snoc r ⟨rfl, ry⟩
theorem KV.drop {kvs : List (κ × V)} {vs : List (κ × Value)} (r : KV kvs vs) (k : κ) : KV (dropK kvs k) (without vs k) := by
  unfold KV at r ⊢
  unfold dropK without
  induction r with
  | nil => exact .nil
  | @cons p q ps qs h t ih =>
    obtain ⟨h1, h2⟩ := h
    rw [List.filter_cons, List.filter_cons]
    by_cases e : p.1 = k
    · have a : ¬ decide (p.1 ≠ k) = true := by simp [e]
      have b : ¬ decide (q.1 ≠ k) = true := by simp [h1.symm.trans e]
      rw [if_neg a, if_neg b]; exact ih
    · have e' : ¬ q.1 = k := fun z => e (h1.trans z)
      have a : decide (p.1 ≠ k) = true := by simp [e]
      have b : decide (q.1 ≠ k) = true := by simp [e']
      rw [if_pos a, if_pos b]; exact .cons ⟨h1, h2⟩ ih
theorem KV.keys {kvs : List (κ × V)} {vs : List (κ × Value)} (r : KV kvs vs) : kvs.map (·.1) = vs.map (·.1) := by
  unfold KV at r
  induction r with
  | nil => rfl
  | cons h t ih => rw [List.map_cons, List.map_cons, ih, h.1]
theorem KV.length {kvs : List (κ × V)} {vs : List (κ × Value)} (r : KV kvs vs) : kvs.length = vs.length := Paired.length r
theorem dropK_le (kvs : List (κ × V)) (k : κ) : (dropK kvs k).length ≤ kvs.length := List.length_filter_le _ _
end
theorem kV_is {P : Program} {w : World} {k : Key} {u : Value} (r : RelV (kV k) u) : (mixKind P w).is k u = true := by
  cases k with
  | inl i => obtain ⟨t, e⟩ := (show ∃ t, u = Value.int i t from r); subst e; exact mixKind_int P w i t
  | inr x => obtain ⟨t, e⟩ := (show ∃ t, u = Value.str x t from r); subst e; exact mixKind_str P w x t
theorem items_are {P : Program} {w : World} : ∀ {ks : List Key} {us : List Value}, Vals (ks.map kV) us → ItemsAre (mixKind P w) ks us
  | [], _, r => by rw [List.map_nil] at r; cases r; exact .nil
  | k :: ks, _, r => by
    rw [List.map_cons] at r
    cases r with
    | cons h t => exact .cons (kV_is h) (items_are t)
abbrev KT (H : Hp) : List (List Key × V) → List (List Key × Addr × Value) → Prop := Paired fun p q => p.1 = q.1 ∧ H q.2.1 = some (.tup (p.1.map kV)) ∧ RelV p.2 q.2.2
theorem KT.val {H : Hp} {kvs : List (List Key × V)} {xs : List (List Key × Addr × Value)} (r : KT H kvs xs) (k : List Key) : RelO (valV kvs k) ((atKey xs k).map (·.2)) := by
  induction r with
  | nil => exact True.intro
  | @cons p q ps qs h t ih =>
    obtain ⟨h1, _, h2⟩ := h
    by_cases e : p.1 = k
    · have e' : q.1 = k := h1.symm.trans e
      have b : atKey (q :: qs) k = some q.2 := by simp [atKey, List.find?_cons, e']
      rw [valV_pos e, b]; exact h2
    · have e' : ¬ q.1 = k := fun z => e (h1.trans z)
      have b : atKey (q :: qs) k = atKey qs k := by simp [atKey, List.find?_cons, e']
      rw [valV_neg e, b]; exact ih
theorem KT.repl {H : Hp} {kvs : List (List Key × V)} {xs : List (List Key × Addr × Value)} (r : KT H kvs xs) (k : List Key) {y : V} {u : Value} (ry : RelV y u) :
    KT H (kvs.map fun kv => if kv.1 = k then (kv.1, y) else kv) (xs.map (putAt k u)) := by
  induction r with
  | nil => exact .nil
  | @cons p q ps qs h t ih =>
    rw [List.map_cons, List.map_cons]
    refine .cons ?_ ih
    obtain ⟨h1, h2, h3⟩ := h
    unfold putAt
    by_cases e : p.1 = k
    · rw [if_pos e, if_pos (h1.symm.trans e)]; exact ⟨h1, h2, ry⟩
    · rw [if_neg e, if_neg (fun z => e (h1.trans z))]; exact ⟨h1, h2, h3⟩
theorem KT.put {H : Hp} {kvs : List (List Key × V)} {xs : List (List Key × Addr × Value)} (r : KT H kvs xs) (k : List Key) {b : Addr} {y : V} {u : Value} (hb : H b = some (.tup (k.map kV))) (ry : RelV y u) :
    KT H (putK kvs k y) (storedH xs k b u) := by
  have e : (kvs.any fun kv => decide (kv.1 = k)) = (atKey xs k).isSome := by
    rw [valV_any, (r.val k).isSome_eq, Option.isSome_map]
  unfold putK storedH
  rw [e]
  by_cases q : (atKey xs k).isSome = true
  · rw [if_pos q, if_pos q]; exact r.repl k ry
  · rw [if_neg q, if_neg q]; exact Paired.snoc r ⟨rfl, hb, ry⟩
theorem KT.keeps {H H' : Hp} {kvs : List (List Key × V)} {xs : List (List Key × Addr × Value)} (r : KT H kvs xs) (ht : ∀ b ys, H b = some (.tup ys) → H' b = some (.tup ys)) : KT H' kvs xs :=
  Paired.mapP r fun _ _ z => ⟨z.1, ht _ _ z.2.1, z.2.2⟩
section
variable {P : Program} {w : World} {H : Hp} {h : Heap} {a : Addr}
theorem rd_of {u : HO} (ok : HOk P w H h) (e : Rd H a u) : ObjOk P w H h a u := e.ok ok
theorem dk_rd {kvs : List (Key × V)} (ok : HOk P w H h) (e : Rd H a (.dK kvs)) : kvs.length ≤ sizeLine ∧ (a == sysModules) = false ∧ ∃ vs, KV kvs vs ∧ h.DictOf (mixKind P w) a vs :=
  show ObjOk P w H h a (.dK kvs) from rd_of ok e
theorem dk_of {kvs : List (Key × V)} (ok : HOk P w H h) (e : H a = some (.dK kvs)) : kvs.length ≤ sizeLine ∧ (a == sysModules) = false ∧ ∃ vs, KV kvs vs ∧ h.DictOf (mixKind P w) a vs := dk_rd ok (.inl e)
theorem key_of {ks : List Key} (ok : HOk P w H h) (e : H a = some (.tup (ks.map kV))) : (tupleKind (mixKind P w)).is h ks a := by
  obtain ⟨_, its, r, o, h1, h2, n, h3⟩ := (show ObjOk P w H h a (.tup (ks.map kV)) from ok a _ e)
  exact ⟨o, its.toArray, n, h1, h2, h3, by simpa using items_are r⟩
theorem dt_rd {kvs : List (List Key × V)} (ok : HOk P w H h) (e : Rd H a (.dT kvs)) : kvs.length ≤ sizeLine ∧ (a == sysModules) = false ∧
    ∃ xs, KT H kvs xs ∧ h.DictOfH (tupleKind (mixKind P w)) a xs := by
  obtain ⟨z, y, xs, r, o, es, ep, h1, h2, h3, h4, h5⟩ := (show ObjOk P w H h a (.dT kvs) from rd_of ok e)
  refine ⟨z, y, xs, r, o, es, ep, h1, h2, h3, h4, fun x hx => ?_, h5⟩
  have all : ∀ {l : List (List Key × V)} {m : List (List Key × Addr × Value)}, KT H l m → ∀ x ∈ m, (tupleKind (mixKind P w)).is h x.1 x.2.1 := by
    intro l m q
    induction q with
    | nil => intro x hx; exact nomatch hx
    | @cons p q ps qs hq t ih =>
      intro x hx
      rcases List.mem_cons.mp hx with e | hx
      · subst e
        exact key_of ok (by rw [← hq.1]; exact hq.2.1)
      · exact ih x hx
  exact all r x hx
theorem dt_of {kvs : List (List Key × V)} (ok : HOk P w H h) (e : H a = some (.dT kvs)) : kvs.length ≤ sizeLine ∧ (a == sysModules) = false ∧
    ∃ xs, KT H kvs xs ∧ h.DictOfH (tupleKind (mixKind P w)) a xs := dt_rd ok (.inl e)
end
def DGet (H : Hp) (a : Addr) (y : V) (r : Option V) : Prop :=
  (∃ kvs k, Rd H a (.dK kvs) ∧ y = kV k ∧ r = valV kvs k) ∨ ∃ kvs k b, Rd H a (.dT kvs) ∧ y = .ref b ∧ H b = some (.tup (k.map kV)) ∧ r = valV kvs k
def DPut (H : Hp) (a : Addr) (y v : V) (H' : Hp) : Prop :=
  (∃ kvs k, H a = some (.dK kvs) ∧ y = kV k ∧ kvs.length < sizeLine ∧ H' = upd H a (.dK (putK kvs k v))) ∨
  ∃ kvs k b, H a = some (.dT kvs) ∧ y = .ref b ∧ H b = some (.tup (k.map kV)) ∧ kvs.length < sizeLine ∧ H' = upd H a (.dT (putK kvs k v))
theorem DGet.k {H : Hp} {a : Addr} {kvs : List (Key × V)} {k : Key} (e : H a = some (.dK kvs)) : DGet H a (kV k) (valV kvs k) := .inl ⟨kvs, k, .inl e, rfl, rfl⟩
theorem DGet.t {H : Hp} {a b : Addr} {kvs : List (List Key × V)} {k : List Key} (e : H a = some (.dT kvs)) (eb : H b = some (.tup (k.map kV))) : DGet H a (.ref b) (valV kvs k) := .inr ⟨kvs, k, b, .inl e, rfl, eb, rfl⟩
theorem DPut.k {H : Hp} {a : Addr} {kvs : List (Key × V)} {k : Key} {v : V} (e : H a = some (.dK kvs)) (hl : kvs.length < sizeLine) : DPut H a (kV k) v (upd H a (.dK (putK kvs k v))) := .inl ⟨kvs, k, e, rfl, hl, rfl⟩
theorem DPut.t {H : Hp} {a b : Addr} {kvs : List (List Key × V)} {k : List Key} {v : V} (e : H a = some (.dT kvs)) (eb : H b = some (.tup (k.map kV))) (hl : kvs.length < sizeLine) :
    DPut H a (.ref b) v (upd H a (.dT (putK kvs k v))) := .inr ⟨kvs, k, b, e, rfl, eb, hl, rfl⟩
section
variable {X : Cx} {pins : List (Addr × Obj)} {σ : St} {H : Hp} {s : Shared} {a : Addr} {y v : V} {u r : Value} {o : Option V} {A : Around} {E : Value → Shared → Prop}
theorem Inv.big (I : Inv X pins σ H s) : sysModules < s.heap.objs.size := by
  have h : mainGlobals < s.heap.objs.size := (I.mod.glob.keeps I.bk).lt
  exact Nat.lt_trans (by decide) h
theorem d_getItem {Q : Value → Shared → Prop} (hu : A.units + 1 < cLine) (I : Inv X pins σ H s) (g : DGet H a y (some v)) (ry : RelV y u) (h : ∀ w' s', Inv X pins σ H s' → RelV v w' → Q w' s') :
    wpAny (model X.prog X.w) A (getItem (.ref a) u) Q E s := by
  rcases g with ⟨kvs, k, e, ey, l⟩ | ⟨kvs, k, b, e, ey, eb, l⟩
  · subst ey
    obtain ⟨z, hd, vs, rel, dd⟩ := dk_rd I.hok e
    obtain ⟨w', hw, rw'⟩ := RelO.some_of (v := v) (o := valueAt vs k) (by rw [l]; exact rel.val k)
    exact wpAny_getItem_of (kV_is ry) dd.mapOf hw (h w' _ (I.tok _) rw')
  · subst ey
    cases (show u = Value.ref b from ry)
    obtain ⟨z, hd, xs, rel, dd⟩ := dt_rd I.hok e
    obtain ⟨w', hw, rw'⟩ := RelO.some_of (v := v) (o := (atKey xs k).map (·.2)) (by rw [l]; exact rel.val k)
    obtain ⟨p, hp, hp2⟩ := Option.map_eq_some_iff.mp hw
    refine wpAny_getItem_heap (tupleKind_room_in1 hu) (key_of I.hok eb) dd hp ?_
    rw [hp2]
    exact h w' _ (I.tok _) rw'
theorem d_notIn {Q : Value → Shared → Prop} (hu : A.units + 1 < cLine) (I : Inv X pins σ H s) (g : DGet H a y o) (ry : RelV y u) (h : ∀ s', Inv X pins σ H s' → Q (.bool (!o.isSome)) s') :
    wpAny (model X.prog X.w) A (compareOp .NotIn u (.ref a)) Q E s := by
  rcases g with ⟨kvs, k, e, ey, l⟩ | ⟨kvs, k, b, e, ey, eb, l⟩
  · subst ey
    obtain ⟨z, hd, vs, rel, dd⟩ := dk_rd I.hok e
    refine wpAny_notIn_of (kV_is ry) hd dd.mapOf ?_
    rw [← (rel.val k).isSome_eq, ← l]
    exact h _ (I.tok _)
  · subst ey
    cases (show u = Value.ref b from ry)
    obtain ⟨z, hd, xs, rel, dd⟩ := dt_rd I.hok e
    refine wpAny_notIn_heap (tupleKind_room_in1 hu) (key_of I.hok eb) hd dd ?_
    have q := (rel.val k).isSome_eq
    rw [Option.isSome_map] at q
    rw [← q, ← l]
    exact h _ (I.tok _)
theorem d_write {h' : Heap} {t' : Nat} {ob : HO} (I : Inv X pins σ H s) (mu : Mut (H a)) (hs : Heap.SameBut a s.heap h') (he : ∃ q, h'.get? a = some q) (new : ObjOk X.prog X.w (upd H a ob) h' a ob) :
    Inv X pins σ (upd H a ob) { s with heap := h', toks := t' } :=
  I.write (x := a) (e := a) mu (.inl rfl) (fun b q hb z => (hs.2 b hb).trans z) he new
theorem dk_new {P : Program} {w : World} {H' : Hp} {h' : Heap} {kvs : List (Key × V)} {vs : List (Key × Value)} (z : kvs.length ≤ sizeLine) (hd : (a == sysModules) = false) (rel : KV kvs vs) (dd : h'.DictOf (mixKind P w) a vs) :
    ObjOk P w H' h' a (.dK kvs) := ⟨z, hd, vs, rel, dd⟩
theorem d_setItem {H' : Hp} {Q : Unit → Shared → Prop} (hu : A.units + 1 < cLine) (I : Inv X pins σ H s) (g : DPut H a y v H') (ry : RelV y u) (rv : RelV v r) (h : ∀ s', Inv X pins σ H' s' → Q () s') :
    wpAny (model X.prog X.w) A (setItem (.ref a) u r) Q E s := by
  rcases g with ⟨kvs, k, e, ey, l, eH⟩ | ⟨kvs, k, b, e, ey, eb, l, eH⟩
  · subst ey eH
    obtain ⟨z, hd, vs, rel, dd⟩ := dk_of I.hok e
    have hz : vs.length ≤ sizeLine := by rw [← rel.length]; exact z
    have hl : (putK kvs k v).length ≤ sizeLine := by have := length_putK kvs k v; omega
    refine wpAny_setItem_pairs (hsz := hz) (kV_is ry) dd fun h' dd' hs => h _ ?_
    have he : ∃ q, h'.get? a = some q := let ⟨q, _, _, hq, _⟩ := dd'; ⟨q, hq⟩
    exact d_write I (by rw [e]; exact True.intro) hs he (dk_new hl hd (rel.put k rv) dd')
  · subst ey eH
    cases (show u = Value.ref b from ry)
    obtain ⟨z, hd, xs, rel, dd⟩ := dt_of I.hok e
    have hz : xs.length ≤ sizeLine := by rw [← Paired.length rel]; exact z
    have hl : (putK kvs k v).length ≤ sizeLine := by have := length_putK kvs k v; omega
    refine wpAny_setItem_heap (hsz := hz) (tupleKind_room_in1 hu) (key_of I.hok eb) dd fun h' dd' hs => h _ ?_
    obtain ⟨q, es, ep, hq, h2, h3, h4, _, h5⟩ := dd'
    refine d_write I (by rw [e]; exact True.intro) hs ⟨q, hq⟩ ⟨hl, hd, _, (rel.put k eb rv).keeps fun c ys ec => ?_, q, es, ep, hq, h2, h3, h4, h5⟩
    rw [upd_ne (ne_of ec e (fun z => nomatch z))]
    exact ec
end
section
variable {X : Cx} {pins : List (Addr × Obj)} {σ : St} {H : Hp} {s : Shared} {a : Addr} {kvs : List (Key × V)} {k : Key} {u : Value} {A : Around} {E : Value → Shared → Prop}
theorem d_pop {v : V} {more : List Value} {Q : Value → Shared → Prop} (I : Inv X pins σ H s) (e : H a = some (.dK kvs)) (ry : RelV (kV k) u) (l : valV kvs k = some v) (hm : more = [] ∨ ∃ x, more = [x])
    (h : ∀ w' s', Inv X pins σ (upd H a (.dK (dropK kvs k))) s' → RelV v w' → Q w' s') : wpAny (model X.prog X.w) A (call (.builtin "dict.pop") (.ref a :: u :: more)) Q E s := by
  obtain ⟨z, hd, vs, rel, dd⟩ := dk_of I.hok e
  obtain ⟨w', hw, rw'⟩ := RelO.some_of (v := v) (o := valueAt vs k) (by rw [← l]; exact rel.val k)
  have hp : (keyPart u).isSome = true := by
    cases k with
    | inl i => obtain ⟨t, q⟩ := (show ∃ t, u = Value.int i t from ry); subst q; rfl
    | inr x => obtain ⟨t, q⟩ := (show ∃ t, u = Value.str x t from ry); subst q; rfl
  have ha : argsOk "dict.pop" ⟨.ref a :: u :: more, []⟩ := by
    rcases hm with q | ⟨x, q⟩
    · subst q; exact PySem.F.args_dict_pop_2 _ _
    · subst q; exact PySem.F.args_dict_pop_3 _ _ _
  refine call_meetsIn PySem.F.slot_dict_pop dd.typeIs PySem.F.entry_dict_pop ha (meets_dict_pop_there (mixKind X.prog X.w) a (kV_is ry) more hm hp)
    ⟨vs, w', dd, by rw [← rel.length]; exact z, hw, fun h' dd' hs => h w' _ ?_ rw'⟩
  have he : ∃ q, h'.get? a = some q := let ⟨q, _, _, hq, _⟩ := dd'; ⟨q, hq⟩
  exact d_write I (by rw [e]; exact True.intro) hs he (dk_new (Nat.le_trans (dropK_le kvs k) z) hd (rel.drop k) dd')
theorem d_len {Q : Value → Shared → Prop} (I : Inv X pins σ H s) (e : Rd H a (.dK kvs)) (h : ∀ t s', Inv X pins σ H s' → Q (.int kvs.length t) s') : wpAny (model X.prog X.w) A (call (.builtin "len") [.ref a]) Q E s := by
  obtain ⟨z, hd, vs, rel, dd⟩ := dk_rd I.hok e
  refine call_len_dict hd dd (by rw [← rel.length]; rw [sizeLine_eq] at z; omega) ?_
  rw [← rel.length]
  exact h _ _ (I.tok _)
end
def NoSl (i : Expr) : Prop := ∀ ov iv, subscripted i false ov iv = operate [ov, iv] (getItem ov iv)
theorem subD_of {prog : Program} {w : World} {A : Around} {E : Value → Shared → Prop} {s : Shared} {env : Env} {value slice : Expr} {pos : Pos} {T id : String} {Q : Value → Shared → Prop}
    (hl : typeLookup (.type T) "__getitem__" = pure (some (.builtin id))) (hs : NoSl slice)
    (h : wpAny (model prog w) A (eval value env) (fun o s₁ => wpAny (model prog w) A (eval slice env) (fun i s₂ => s₂.TypeIs o T ∧ wpAny (model prog w) A (getItem o i) Q E s₂) E s₁) E s) :
    wpAny (model prog w) A (eval (.Subscript value slice pos) env) Q E s := by
  refine Subscript_ (wpAny_mono h (fun o s₁ h₁ => wpAny_mono h₁ (fun i s₂ h₂ => ?_) fun _ _ x => x) fun _ _ x => x)
  obtain ⟨hT, h₂⟩ := h₂
  unfold subscriptTail
  refine wpAny_bind ?_
  rw [getitemInPython_of_ne hT.not_modules]
  refine wpAny_bind (wpAny_specialOf hT hl ?_)
  have fin : wpAny (model prog w) A (subscripted slice false o i) (fun r s₃ => wpAny (model prog w) A (letTemporaryGo value o r >>= fun _ => pure r) Q E s₃) E s₂ := by
    rw [hs o i]
    exact wpAny_operating (wpAny_mono h₂ (fun r s₃ h₃ => wpAny_bind (wpAny_letTemporaryGo (wpAny_pure h₃))) fun _ _ x => x)
  first
    | exact wpAny_pure (wpAny_bind fin)
    | exact wpAny_bind (wpAny_pure (wpAny_bind fin))
    | exact wpAny_bind fin
theorem dict_typeIs {X : Cx} {pins : List (Addr × Obj)} {σ : St} {H : Hp} {s : Shared} {a : Addr} {y : V} {o : Option V} (I : Inv X pins σ H s) (g : DGet H a y o) : s.TypeIs (.ref a) "dict" := by
  rcases g with ⟨kvs, k, e, _, _⟩ | ⟨kvs, k, b, e, _, _, _⟩
  · obtain ⟨_, _, vs, _, dd⟩ := dk_rd I.hok e
    exact dd.typeIs
  · obtain ⟨_, _, xs, _, dd⟩ := dt_rd I.hok e
    exact dd.typeIs
def tDGet (td ty : TE) : TE := fun σ H Q => td σ H fun x H1 => ty σ H1 fun y H2 => ∃ a v, x = .ref a ∧ DGet H2 a y (some v) ∧ Q v H2
def tDNotIn (ty td : TE) : TE := fun σ H Q => ty σ H fun y H1 => td σ H1 fun x H2 => ∃ a o, x = .ref a ∧ DGet H2 a y o ∧ Q (.bl (!o.isSome)) H2
def sDPut (td ty tv : TE) : TS := fun D σ H => tv σ H fun v H1 => td σ H1 fun x H2 => ty σ H2 fun y H3 => ∃ a H4, x = .ref a ∧ DPut H3 a y v H4 ∧ D.nx σ H4
section
variable {X : Cx} {o i e value : Expr} {pos pos' tpos : Pos} {td ty tv : TE}
theorem pe_dget (hu : X.A.units + 1 < cLine) (ho : PE X o td) (hi : PE X i ty) (hs : NoSl i) : PE X (.Subscript o i pos) (tDGet td ty) := by
  intro pins s σ H Q I h
  refine subD_of PySem.F.slot_dict_getitem.lookup hs (thn (ho pins s σ H _ I h) fun u s1 ⟨x, H1, I1, rx, q1⟩ => thn (hi pins s1 σ H1 _ I1 q1) fun iv s2 ⟨y, H2, I2, ry, a, v, ex, g, q2⟩ => ?_)
  subst ex
  obtain rfl : u = Value.ref a := rx
  exact ⟨dict_typeIs I2 g, d_getItem hu I2 g ry fun w' s3 I3 rw' => ⟨v, H2, I3, rw', q2⟩⟩
theorem pc_dnotin (hu : X.A.units + 1 < cLine) (hi : PE X i ty) (ho : PE X o td) : PC X .NotIn i o (tDNotIn ty td) := by
  intro pins s σ H Q I h
  refine thn (hi pins s σ H _ I h) fun iv s1 ⟨y, H1, I1, ry, q1⟩ => thn (ho pins s1 σ H1 _ I1 q1) fun u s2 ⟨x, H2, I2, rx, a, ov, ex, g, q2⟩ => ?_
  subst ex
  obtain rfl : u = Value.ref a := rx
  exact d_notIn hu I2 g ry fun s3 I3 => ⟨.bl (!ov.isSome), H2, I3, rfl, q2⟩
theorem ps_dput (hu : X.A.units + 1 < cLine) (ho : PE X o td) (hi : PE X i ty) (hv : PE X value tv) (hs : swapsWith value (some (.Subscript o i pos')) pos.line X.env = pure false) :
    PS X (.Assign [.Subscript o i pos'] value pos) (sDPut td ty tv) := by
  intro pins s σ H D I h
  refine wpAny_Assign_Subscript (thn (hv pins s σ H _ I h) fun r s1 ⟨v, H1, I1, rv, q1⟩ => thn (ho pins s1 σ H1 _ I1 q1) fun u s2 ⟨x, H2, I2, rx, q2⟩ => thn (hi pins s2 σ H2 _ I2 q2) fun iv s3 ⟨y, H3, I3, ry, a, H4, ex, g, q3⟩ => ?_) hs
  subst ex
  obtain rfl : u = Value.ref a := rx
  exact d_setItem hu I3 g ry rv fun s4 I4 => ⟨σ, H4, I4, q3⟩
end
theorem dk_empty {P : Program} {w : World} {H : Hp} (h : Heap) (hb : sysModules < h.objs.size) : ObjOk P w H (h.push { cls := .type "dict", data := .dict #[] }) h.objs.size (.dK []) :=
  ⟨Nat.zero_le _, beq_eq_false_iff_ne.mpr (Ne.symm (Nat.ne_of_lt hb)), [], .nil, Heap.DictOf.new h⟩
def tDNewK : TE := fun _ H Q => ∀ p, H p = none → Q (.ref p) (upd H p (.dK []))
section
variable {X : Cx} {pos : Pos}
theorem pe_dnewK : PE X (.Dict [] [] pos) tDNewK := fun pins s σ H Q I h =>
  wpAny_Dict_empty ⟨.ref s.heap.objs.size, _, I.laid (a := s.heap.objs.size) (o := .dK []) (t' := s.toks) (fun _ _ q => Heap.get?_push_of_some _ q) (Nat.le_refl _) (dk_empty s.heap I.big), rfl, h _ (I.hok.fresh (Nat.le_refl _))⟩
end
structure M1 (X : Cx) (o : Expr) (m : Str) (apos : Pos) (e : Expr) (cpos : Pos) : Prop where
  base : attributeBase o m X.env (eval o X.env) = eval o X.env
  few : ((backTo cpos (starEach [e] X.env)).all (fun x => !x.1) && (backToKw cpos (keywordEach [] X.env)).all (fun x => x.1.isSome)
    && decide (([e] : List Expr).length + ([] : List Keyword).length + (if ([] : List Keyword).isEmpty then 0 else 1) < 30)) = true
  line : (apos.endLine == cpos.line) = true
  trees : backTo cpos (starEach [e] X.env) = [(false, eval e X.env)]
def IsD (H : Hp) (a : Addr) : Prop := (∃ kvs, Rd H a (.dK kvs)) ∨ ∃ kvs, Rd H a (.dT kvs)
theorem isD_at {X : Cx} {pins : List (Addr × Obj)} {σ : St} {H : Hp} {s : Shared} {a : Addr} (I : Inv X pins σ H s) (d : IsD H a) :
    s.TypeIs (.ref a) "dict" ∧ (∀ b, Value.ref a = .ref b → ∃ ob, s.heap.get? b = some ob ∧ ob.dict = none) ∧ (a == sysModules) = false := by
  rcases d with ⟨kvs, e⟩ | ⟨kvs, e⟩
  · obtain ⟨_, hd, vs, _, dd⟩ := dk_rd I.hok e
    refine ⟨dd.typeIs, fun b q => ?_, hd⟩
    cases q
    obtain ⟨ob, _, _, h1, h2, _⟩ := dd
    exact ⟨ob, h1, h2.2.1⟩
  · obtain ⟨_, hd, xs, _, dd⟩ := dt_rd I.hok e
    refine ⟨dd.typeIs, fun b q => ?_, hd⟩
    cases q
    obtain ⟨ob, _, _, h1, h2, _⟩ := dd
    exact ⟨ob, h1, h2.2.1⟩
section
variable {X : Cx} {pins : List (Addr × Obj)} {σ : St} {H : Hp} {s : Shared} {a : Addr} {y d : V} {u r : Value} {o : Option V} {A : Around} {E : Value → Shared → Prop}
end
def tDPop1 (td ty : TE) : TE := fun σ H Q => td σ H fun x H1 => ∃ a, x = .ref a ∧ IsD H1 a ∧ ty σ H1 fun y H2 => ∃ kvs k v, H2 a = some (.dK kvs) ∧ y = kV k ∧ valV kvs k = some v ∧ Q v (upd H2 a (.dK (dropK kvs k)))
section
variable {X : Cx} {o e f : Expr} {apos cpos : Pos} {td ty tx : TE}
theorem pe_dpop1 (ho : PE X o td) (he : PE X e ty) (m : M1 X o "pop" apos e cpos) : PE X (.Call (.Attribute o "pop" apos) [e] [] cpos) (tDPop1 td ty) := by
  intro pins s σ H Q I h
  refine wpAny_Call_method m.base m.few m.line PySem.F.plainAttrs_dict PySem.F.slot_dict_pop PySem.F.type_dict_pop (thn (ho pins s σ H _ I h) fun u s1 ⟨x, H1, I1, rx, a, ex, d, q1⟩ => ?_)
  subst ex
  obtain rfl : u = Value.ref a := rx
  obtain ⟨t1, t2, _⟩ := isD_at I1 d
  refine ⟨t1, t2, ?_⟩
  rw [m.trees]
  refine Calls.callWith_builtin rfl (Calls.evalArgs_plain (Calls.spliced_cons (thn (he pins s1 σ H1 _ I1 q1) fun iv s2 ⟨y, H2, I2, ry, kvs, k, v, ea, ey, l, q2⟩ => Calls.spliced_nil ?_)))
  subst ey
  exact d_pop I2 ea ry l (.inl rfl) fun w' s3 I3 rw' => ⟨v, _, I3, rw', q2⟩
end
section
variable {X : Cx} {pins : List (Addr × Obj)} {σ : St} {H : Hp} {s : Shared} {a : Addr} {kvs : List (Key × V)} {A : Around} {E : Value → Shared → Prop}
end
section
variable {X : Cx} {pins : List (Addr × Obj)} {σ : St} {H : Hp} {s : Shared} {a : Addr} {y : V} {u : Value} {A : Around} {E : Value → Shared → Prop}
end
end L2
namespace L2
open PySem PySem.Spec PyProof.Rows
section
variable {prog : Program} {w : World} {A : Around} {E : Value → Shared → Prop}
end
section
variable {X : Cx}
theorem pairs_of {pins : List (Addr × Obj)} {σ : St} {H : Hp} {s : Shared} (I : Inv X pins σ H s) : ∀ {ps : List Addr} {kvs : List (Key × V)}, Paired (fun p kv => SqT X.K H p [kV kv.1, kv.2]) ps kvs →
    ∃ prs : List (Key × Value), KV kvs prs ∧ prs.length = ps.length ∧ ∀ (j : Nat) (q : Key × Value), prs[j]? = some q → ∃ (b : Addr) (u : Value), ps[j]? = some b ∧ IsTup s.heap b #[u, q.2] ∧ keyIs q.1 u = true
  | _, _, .nil => ⟨[], .nil, rfl, fun j q e => by simp at e⟩
  | _, _, .cons (a := p) (b := kv) h t => by
    obtain ⟨prs, r, hl, hp⟩ := pairs_of I t
    obtain ⟨its, rv, ht, _⟩ := I.tuple h
    obtain ⟨u, y, ei, ru, ry⟩ := vals2 rv
    subst ei
    refine ⟨(kv.1, y) :: prs, .cons ⟨rfl, ry⟩ r, by rw [List.length_cons, List.length_cons, hl], fun j q e => ?_⟩
    cases j with
    | zero =>
      have e' : (kv.1, y) = q := Option.some.inj e
      subst e'
      exact ⟨p, u, rfl, ht, kV_is (P := X.prog) (w := X.w) ru⟩
    | succ j =>
      obtain ⟨b, u', e1, e2, e3⟩ := hp j q (by simpa using e)
      exact ⟨b, u', by simpa using e1, e2, e3⟩
end
end L2
namespace L2
open PySem PySem.Spec PyProof.Rows
section
variable {X : Cx} {pins : List (Addr × Obj)} {σ : St} {H : Hp} {s : Shared} {h' : Heap}
theorem Inv.turnedNew {t' : Nat} {ch : List Addr} {T : Addr} {ob : HO} (I : Inv X pins σ H s) (k : ∀ b o, b ∉ ch → s.heap.get? b = some o → h'.get? b = some o) (hf : ∀ b ∈ ch, FpOk X pins H b) (hT : s.heap.objs.size ≤ T)
    (new : ObjOk X.prog X.w (upd H T ob) h' T ob) : Inv X pins σ (upd H T ob) { s with heap := h', toks := t' } := by
  have hn : H T = none := I.hok.fresh hT
  have nit : ∀ b u, H b = some u → b ∉ ch := fun b u e z => by
    have q := (hf b z).1
    rw [q] at e; cases e
  refine I.step (g' := s.gens) (d' := s.drawn) (ch := ch) (fun b hb => ⟨(hf b hb).2.2.2.1, (hf b hb).2.1, (hf b hb).2.2.2.2.1, (hf b hb).2.2.2.2.2⟩) (fun b o _ _ hc e _ => k b o hc e) (fun b o _ _ hc e _ => ⟨o.slots, k b o hc e⟩)
    (fun b o _ e n => ?_) (fun b o hc e => ⟨o, k b o hc e⟩) (fun b xs e => ?_) (fun b o u e => ?_) (fun b ps e => ⟨#[], ?_⟩) (fun m hm => ?_) (fun b u e => ?_) I.bare
  · rw [upd_ne (Nat.ne_of_lt (Nat.lt_of_lt_of_le (Heap.lt_size e) hT))]; exact n
  · rw [upd_ne (ne_of_none e hn)]; exact e
  · rw [upd_ne (ne_of_none e hn)]; exact e
  · rw [upd_ne (ne_of_none e hn), e]; simp
  · obtain ⟨o, es, ep, ho, r⟩ := hm
    exact ⟨o, es, ep, k _ o (fun z => (hf _ z).2.1 rfl) ho, r⟩
  · by_cases hb : b = T
    · subst hb
      rw [upd_same] at e
      cases e
      exact new
    · rw [upd_ne hb] at e
      refine (I.hok b u e).stay (fun c v hc q => k c v ?_ q) (fun c q => by rw [upd_ne (ne_of_none q hn)]; exact q) fun c xs q => by rw [upd_ne (ne_of_none q hn)]; exact q
      rcases hc with z | z
      · rw [z]; exact nit b u e
      · exact nit c _ z
end
section
variable {X : Cx}
end
section
variable {X : Cx} {tg : Expr}
end
section
variable {X : Cx} {tg : Expr}
end
section
variable {prog : Program} {w : World} {A : Around} {E : Value → Shared → Prop} {s : Shared}
end
theorem paired_get {α β : Type} {G : α → β → Prop} {l₁ : List α} {l₂ : List β} (h : Paired G l₁ l₂) : ∀ {i : Nat} {a : α}, l₁[i]? = some a → ∃ b, l₂[i]? = some b ∧ G a b := by
  induction h with
  | nil => intro i a e; simp at e
  | @cons a b l₁ l₂ r t ih =>
    intro i a' e
    cases i with
    | zero =>
      simp only [List.getElem?_cons_zero, Option.some.injEq] at e
      subst e
      exact ⟨b, rfl, r⟩
    | succ j =>
      simp only [List.getElem?_cons_succ] at e ⊢
      exact ih e
section
variable {X : Cx} {pins : List (Addr × Obj)} {σ : St} {H : Hp} {s : Shared} {d : Addr} {o : Obj}
end
section
variable {P : Program} {w : World} {K : PySem.W.Frag} {tg : Expr} {d : Addr} {o : Obj} {es : Array DictEntry} {ep : Nat}
end
section
variable {X : Cx} {tg e : Expr} {td : TE} {apos cpos : Pos}
end
def Ite (K : PySem.W.Frag) (a : Addr) : It :=
  ⟨fun i H => ∃ (xs : List V) (x : V), SqL K H a xs ∧ xs[i]? = some x, fun i H v H' => ∃ T x, v = .ref T ∧ H T = none ∧ H' = upd H T (.tup [.int (i : Nat), x]) ∧ ∀ xs, SqL K H a xs → xs[i]? = some x, fun i H => ∃ xs : List V, SqL K H a xs ∧ xs.length ≤ i⟩
theorem turn_enum {P : Program} {w : World} {K : PySem.W.Frag} {elts : List Expr} {kk : Nat} {tpos : Pos} (a e it : Addr) :
    Turn P w K (.Tuple elts kk tpos) (Ite K a) [e, it] e (fun i h => (∃ old, IsEnum h e it ((i : Nat) : Int) old) ∧ h.IsListIter it a i ∧ e ≠ it) where
  mem := by simp
  obj := fun i h st b hb => by
    obtain ⟨⟨old, he⟩, ⟨o, ho, hc, hd⟩, _⟩ := st
    have e' : b = e ∨ b = it := by simpa using hb
    rcases e' with z | z
    · rw [z]; exact ⟨_, he, fun v q => nomatch q⟩
    · rw [z]; exact ⟨o, ho, fun v q => by rw [hd] at q; cases q⟩
  keep := fun i h h' st k => let ⟨⟨old, he⟩, hi, hne⟩ := st; ⟨⟨old, k e (by simp) _ he⟩, hi.at fun o q => k it (by simp) o q, hne⟩
  item := by
    intro X hP hw hK hc i pins s σ H E I hf st hg
    subst hP hw hK
    obtain ⟨⟨old, he⟩, hit, hne⟩ := st
    obtain ⟨xs, x, hq, hx⟩ := hg
    obtain ⟨its, rv, p, hz⟩ := I.list hq
    obtain ⟨u, hu, ru⟩ := rv.get hx
    have hel : e < s.heap.objs.size := Heap.lt_size he
    have hil : it < s.heap.objs.size := by obtain ⟨_, q, _⟩ := hit; exact Heap.lt_size q
    refine wpAny_pyNext_enum_item he hit p.isList (x := u) (by simpa using hu) hne fun h' ho hit' hT hsz hk => ?_
    refine ⟨_, rfl, wpAny_letOwnedTupleGo_enum (s := { s with heap := h', toks := s.toks + 1 }) ho fun h'' he' sb => ?_⟩
    have hT2 : h''.get? s.heap.objs.size = some { cls := .type "tuple", data := .seq #[.int i s.toks, u] } := (sb.2 _ (Nat.ne_of_gt hel)).trans hT
    have new : ObjOk X.prog X.w (upd H s.heap.objs.size (.tup [.int (i : Nat), x])) h'' s.heap.objs.size (.tup [.int (i : Nat), x]) :=
      ⟨by show 2 ≤ sizeLine; decide, [.int i s.toks, u], .cons ⟨_, rfl⟩ (.cons ru .nil), ⟨_, hT2, rfl, _, rfl⟩⟩
    have I1 : Inv X pins σ (upd H s.heap.objs.size (.tup [.int (i : Nat), x])) { s with heap := h'', toks := s.toks + 1 } :=
      I.turnedNew (ch := [e, it]) (fun b ob hb q => (sb.2 b (fun z => hb (by simp [z]))).trans (hk b ob (fun z => hb (by simp [z])) (fun z => hb (by simp [z])) q)) hf (Nat.le_refl _) new
    refine ⟨.ref s.heap.objs.size, _, I1, rfl, ⟨_, x, rfl, I.hok.fresh (Nat.le_refl _), rfl, fun ys hy => by rw [I.list_inj hy hq]; exact hx⟩, ⟨⟨u, ?_⟩, hit'.at fun o q => (sb.2 it (Ne.symm hne)).trans q, hne⟩, fun b hb => ?_⟩
    · have e1 : ((i + 1 : Nat) : Int) = (i : Int) + 1 := by omega
      rw [e1]; exact he'
    · have hb' : b < s.heap.objs.size := by
        have e' : b = e ∨ b = it := by simpa using hb
        rcases e' with z | z
        · rw [z]; exact hel
        · rw [z]; exact hil
      rw [upd_ne (Nat.ne_of_lt hb')]
      exact (hf b hb).1
  done := by
    intro X hP hw hK hc i pins s σ H E I hf st hg
    subst hP hw hK
    obtain ⟨⟨old, he⟩, hit, hne⟩ := st
    obtain ⟨xs, hq, hx⟩ := hg
    obtain ⟨its, rv, p, hz⟩ := I.list hq
    obtain ⟨f0, f1, f2, f3, f4, f5⟩ := hf it (by simp)
    have hl := rv.length
    exact wpAny_pyNext_enum_end (I.ok.hd hc) he hit p.isList (by simp; omega) fun h' eb => ⟨rfl, I.turned (t' := s.toks) (fun b o hb q => eb b o hb q) f0 f1 f3 f4 f5⟩
  self := fun A i s Q E st h => let ⟨⟨_, he⟩, _⟩ := st; wpAny_pyIter_enum he h
def iEnum (K : PySem.W.Frag) (ta : TA) : TI := fun σ H R => ta σ H fun vs H1 => ∃ a xs, vs = [.ref a] ∧ SqL K H1 a xs ∧ R (Ite K a) H1
theorem pi_enum {X : Cx} {e : Expr} {ta : TA} {p pos tpos : Pos} {elts : List Expr} {kk : Nat} (hg : Gl X "enumerate") (hm : X.mg "enumerate" = none) (ha : PA X [e] ta) (hs : starEach [e] X.env = [(false, eval e X.env)] := by rfl) :
    PI X (.Tuple elts kk tpos) (.Call (.Name "enumerate" p) [e] [] pos) (iEnum X.K ta) := by
  intro pins s σ H R I h
  refine Call_ (ld_blt I hg hm boot_enumerate (PyProof.Rows.callWith_type1 (thn (ha pos pins s σ H _ I h) fun us s1 ⟨vs, H1, I1, r1, q1⟩ => ?_) hs rfl))
  obtain ⟨a, xs, ex, hq, q⟩ := q1
  subst ex
  cases r1 with
  | cons r rr =>
    cases rr
    cases r
    obtain ⟨its, rv, p', hz⟩ := I1.list hq
    refine call_enumerate_list p'.isList fun h' he hit hsz hk => wpAny_pyIter_enum he ?_
    have I2 : Inv X pins σ H1 { s1 with heap := h' } := I1.kept (t' := s1.toks) hk
    refine ⟨s1.heap.objs.size + 1, [s1.heap.objs.size + 1, s1.heap.objs.size], _, _, H1, rfl, I2, turn_enum a (s1.heap.objs.size + 1) s1.heap.objs.size, ⟨⟨.none, he⟩, hit, Nat.succ_ne_self _⟩, fun b hb => ?_, q⟩
    have e' : b = s1.heap.objs.size + 1 ∨ b = s1.heap.objs.size := by simpa using hb
    have hle : s1.heap.objs.size ≤ b := by
      rcases e' with z | z
      · rw [z]; exact Nat.le_add_right _ _
      · rw [z]; exact Nat.le_refl _
    exact I1.fpOk hle (I1.hok.fresh hle)
end L2
section 
namespace Bits
open PySem PyProof.Rows
end Bits
end 
section 
namespace TL
open PySem PySem.Builtin PySem.Builtin.Str PySem.StrLaws
abbrev tl (x : Str) : List Nat := x.cps.toList
def pre (S l : List Nat) : Bool := l.take S.length == S
def par (S : List Nat) : List Nat → List Nat → Option (List Nat × List Nat)
  | _, [] => none
  | acc, c :: r => if pre S (c :: r) = true then some (acc, (c :: r).drop S.length) else par S (acc ++ [c]) r
end TL
end 
namespace L2
open PySem PySem.Spec PyProof.Rows
section
variable {X : Cx} {pins : List (Addr × Obj)} {σ : St} {H : Hp} {s : Shared} {Q : VK}
end
section
variable {X : Cx}
end
section
variable {X : Cx} {o e : Expr} {to te : TE}
end
end L2
namespace L2
open PySem PySem.Spec PyProof.Rows
section
variable {X : Cx}
end
end L2
namespace Att
open PySem PySem.W PySem.Calls PyProof.Rows
section
variable {prog : Program} {w : World} {A : Around} {E : Value → Shared → Prop} {s : Shared} {K : Frag}
end
end Att
namespace L2
open PySem PySem.Spec PyProof.Rows
end L2
namespace L2
open PySem PySem.Spec PyProof.Rows
end L2
namespace L2
open PySem PySem.Spec PyProof.Rows
def inClass (s : Stmt) (j : Nat) : Stmt := match s with
  | .ClassDef _ _ _ body _ _ _ _ _ _ _ => body.getD j (.Pass ⟨0, 0, 0, 0⟩)
  | _ => .Pass ⟨0, 0, 0, 0⟩
def defArgs (s : Stmt) : Arguments := match s with
  | .FunctionDef _ a _ _ _ _ _ _ _ _ => a
  | _ => { posonlyargs := [], args := [], vararg := none, kwonlyargs := [], kw_defaults := [], kwarg := none, defaults := [] }
def defBody (s : Stmt) : List Stmt := match s with
  | .FunctionDef _ _ b _ _ _ _ _ _ _ => b
  | _ => []
def defScope (s : Stmt) : Scope := match s with
  | .FunctionDef _ _ _ _ _ _ sc _ _ _ => sc
  | _ => { kind := .function, names := [], isGenerator := false, isCoroutine := false }
abbrev CX0 : CXT := fun _ _ _ _ _ _ => False
abbrev E0 : XK := fun _ _ _ => False
theorem pass0 {X : Cx} : Passes CX0 X E0 := fun _ _ _ _ _ _ _ h => h.elim
structure Fun (K : PySem.W.Frag) (x qual : Str) (st : Stmt) (f : Addr) (fd : FuncData) : Prop where
  ex : ∃ (oc : Value) (od : Option Addr) (kV doc pm : Value) (an : Option Addr) (cdv ct : Value) (osl : Array (Option Value)),
    fd = PySem.W.fnOf x qual (defArgs st) (defBody st) (defScope st) .none kV doc pm an cdv ct ∧ K.lookup f = some ⟨oc, od, .func fd, osl⟩ ∧ PySem.W.codeIn K cdv qual = true
  kp : PySem.W.keepIn K (.ref f) = true
section
variable {P : Program} {w : World} {K : PySem.W.Frag} {mg : Str → Option Value} {base : Heap}
theorem Fun.ok {x qual : Str} {st : Stmt} {f : Addr} {fd : FuncData} {N ps : List Str} {k : Nat} {sp : Sp} (F : Fun K x qual st f fd) (S : FnScope N ps (defScope st)) (len : ∀ vs H Q E, sp vs H Q E → vs.length = ps.length)
    (hbody : ∀ (cdv : Value) (A : Around) (outer : List Env) (s : Shared) (H : Hp) (vs : List V) (Q : VK) (E : XK), Room k (A.deeper (envOfC qual (defScope st) s.heap.objs.size f cdv)) → sp vs H Q E →
      ∃ t, PSs (cxOf CX0 P w K mg base N qual (defScope st) f cdv A outer s H E).nox (defBody st) t ∧ t { nx := fun _ H' => Q .non H', rt := Q } (start N vs) H) : FnOk P w K mg base CX0 (k + 1) f fd ps sp := by
  obtain ⟨oc, od, kV, doc, pm, an, cdv, ct, osl, rfl, lk, hcd⟩ := F.ex
  refine fn_of lk hcd S len fun A outer s H vs Q E hr hsp => ?_
  obtain ⟨t, h, q⟩ := hbody cdv A outer s H vs Q E hr hsp
  exact ⟨t, h.nox, q⟩
theorem Fun.binds {x qual : Str} {st : Stmt} {f : Addr} {fd : FuncData} {ps : List Str} (F : Fun K x qual st f fd)
    (h : ∀ (kV doc pm : Value) (an : Option Addr) (cdv ct : Value) (us : List Value), us.length = ps.length → bindArgs (PySem.W.fnOf x qual (defArgs st) (defBody st) (defScope st) .none kV doc pm an cdv ct) ⟨us, []⟩ = pure (ps.zip us)) : Binds K fd ps [] := by
  obtain ⟨oc, od, kV, doc, pm, an, cdv, ct, osl, rfl, lk, hcd⟩ := F.ex
  exact .all (h kV doc pm an cdv ct)
theorem fun_mk {x qual : Str} {st : Stmt} {f : Addr} {oc : Value} {od an : Option Addr} {osl : Array (Option Value)} {kV doc pm cdv ct : Value} (l : K.lookup f = some ⟨oc, od, .func (PySem.W.fnOf x qual (defArgs st) (defBody st) (defScope st) .none kV doc pm an cdv ct), osl⟩)
    (c : PySem.W.codeIn K cdv qual = true) (k : PySem.W.keepIn K (.ref f) = true) : Fun K x qual st f (PySem.W.fnOf x qual (defArgs st) (defBody st) (defScope st) .none kV doc pm an cdv ct) := ⟨⟨oc, od, kV, doc, pm, an, cdv, ct, osl, rfl, l, c⟩, k⟩
end
theorem hu_of {A : Around} {k : Nat} (hr : Room k A) : A.units + 1 < cLine := Nat.lt_of_le_of_lt (Nat.add_le_add_left (by decide : 1 ≤ 64) _) hr.units
theorem small1000 {n : Nat} (h : n ≤ 1000) : n < sizeLine := Nat.lt_of_le_of_lt h (by decide)
section
variable {X : Cx}
theorem pv (i : Nat) {x : Str} {pos : Pos} (hN : X.N[i]? = some x := by rfl) (hv : Vis X.env.scope x := by first | exact Or.inl rfl | exact Or.inr (Or.inl rfl) | exact Or.inr (Or.inr rfl)) (hd : (x == ("__debug__" : Str)) = false := by decide)
    (hcd : (x == ("__classdict__" : Str)) = false := by decide) : PE X (.Name x pos) (tVar i) := pe_var hN hv hd hcd
theorem call_lenD : CallR X (.builtin "len") (fun xs H Q => ∃ a kvs, xs = [V.ref a] ∧ H a = some (.dK kvs) ∧ Q (.int kvs.length) H) := by
  intro pins s σ H xs us Q I r h
  obtain ⟨a, kvs, rfl, ha, q⟩ := h
  obtain ⟨u, rfl, ru⟩ := vals1 r
  cases ru
  exact d_len I (.inl ha) fun t s' I' => ⟨.int kvs.length, H, I', ⟨t, rfl⟩, q⟩
end
theorem iteF {A B : Prop} (h : B) : if false = true then A else B := by
  rw [if_neg Bool.false_ne_true]
  exact h
theorem iteT {A B : Prop} (h : A) : if true = true then A else B := by
  rw [if_pos rfl]
  exact h
theorem ite2 {c A B : Prop} [Decidable c] (h1 : c → A) (h2 : ¬ c → B) : if c then A else B := by
  by_cases h : c
  · rw [if_pos h]
    exact h1 h
  · rw [if_neg h]
    exact h2 h
def Same (H H' : Hp) : Prop := ∀ b o, H b = some o → H' b = some o
theorem Same.refl (H : Hp) : Same H H := fun _ _ h => h
theorem Same.trans {H H1 H2 : Hp} (a : Same H H1) (b : Same H1 H2) : Same H H2 := fun c o h => b c o (a c o h)
theorem Same.free {H H' : Hp} (e : Same H H') {l : Addr} (h : H' l = Option.none) : H l = Option.none := by
  cases q : H l with
  | none => rfl
  | some o =>
    rw [e l o q] at h
    cases h
theorem Same.seq {K : PySem.W.Frag} {H H' : Hp} {a : Addr} {xs : List V} (e : Same H H') (h : SqL K H a xs) : SqL K H' a xs := by
  rcases h with (h | ⟨o, h⟩) | h
  · exact .inl (.inl (e _ _ h))
  · exact .inl (.inr ⟨o, e _ _ h⟩)
  · exact .inr h
section
variable {κ : Type} [DecidableEq κ]
theorem dropK_pos {p : κ × V} {r : List (κ × V)} {k : κ} (e : p.1 = k) : dropK (p :: r) k = dropK r k := by
  unfold dropK
  rw [List.filter_cons, if_neg (by simp [e])]
theorem dropK_neg {p : κ × V} {r : List (κ × V)} {k : κ} (e : ¬ p.1 = k) : dropK (p :: r) k = p :: dropK r k := by
  unfold dropK
  rw [List.filter_cons, if_pos (by simp [e])]
end
theorem nd_ix {α : Type} {l : List α} (hN : l.Nodup) {i j : Nat} {x : α} (a : l[i]? = some x) (b : l[j]? = some x) : i = j := by
  obtain ⟨h1, e1⟩ := List.getElem?_eq_some_iff.mp a
  obtain ⟨h2, e2⟩ := List.getElem?_eq_some_iff.mp b
  exact (List.getElem_inj hN).mp (e1.trans e2.symm)
theorem Same.made {H H1 : Hp} {x dx C : Addr} (nx : H x = Option.none) (nd : H dx = Option.none) (k : ∀ b o, (upd (upd H dx (.own x)) x (.ins C dx [])) b = some o → b ≠ x → H1 b = some o) : Same H H1 := fun b o e =>
  k b o (by rw [upd_ne (ne_of_none e nx), upd_ne (ne_of_none e nd)]; exact e) (ne_of_none e nx)
end L2
section
set_option Elab.async false
set_option linter.all false
set_option maxRecDepth 100000
set_option maxHeartbeats 2000000
namespace L2
open PySem PySem.Spec PyProof.Rows
open PySem.W (WData Codec OpenSpec Well WellAll ReadsW ReadsAllW)
mutual
/-- x stands for the datum d, lists and tuples all the way -/
inductive Dw (K : PySem.W.Frag) (H : Hp) : V → WData → Prop
  | non : Dw K H .non .none
  | bl (b : Bool) : Dw K H (.bl b) (.bool b)
  | int (i : Int) : Dw K H (.int i) (.int i)
  | str (x : Str) : Dw K H (.str x) (.str x)
  | byt (b : Array UInt8) : Dw K H (.byt b) (.bytes b.toList)
  | lst {a : Addr} {xs : List V} {ds : List WData} : SqL K H a xs → DwAll K H xs ds → Dw K H (.ref a) (.list ds)
  | tup {a : Addr} {xs : List V} {ds : List WData} : SqT K H a xs → DwAll K H xs ds → Dw K H (.ref a) (.tuple ds)
inductive DwAll (K : PySem.W.Frag) (H : Hp) : List V → List WData → Prop
  | nil : DwAll K H [] []
  | cons {v : V} {vs : List V} {d : WData} {ds : List WData} : Dw K H v d → DwAll K H vs ds → DwAll K H (v :: vs) (d :: ds)
end
theorem dw_ints {K : PySem.W.Frag} {H : Hp} : ∀ ns : List Int, DwAll K H (ns.map V.int) (ns.map WData.int)
  | [] => .nil
  | n :: r => .cons (.int n) (dw_ints r)
theorem ints_dw {K : PySem.W.Frag} {H : Hp} : ∀ (ns : List Int) (xs : List V), DwAll K H xs (ns.map WData.int) → xs = ns.map V.int
  | [], xs, h => by
    cases h
    rfl
  | n :: r, xs, h => by
    cases h with
    | cons h1 h2 =>
      cases h1
      rw [ints_dw r _ h2] <;> rfl
section
variable {P : Program} {w : World} {K : PySem.W.Frag} {H : Hp} {h : Heap} {R : PySem.W.WRecords} {cl : Str → Option Addr}
theorem sqL_at {a : Addr} {xs : List V} (hok : HOk P w H h) (KX : K.In h) (q : SqL K H a xs) : ∃ (its : List Value) (o : Obj) (n : Nat), Vals xs its ∧ h.get? a = some o ∧ o.cls = .type "list" ∧ o.data = .seq its.toArray n := by
  rcases q with q | ⟨o, its, n, e, hc, _, hd, _, hv⟩
  · obtain ⟨_, its, n, hv, e⟩ := (show ObjOk P w H h a (.lst xs) from q.ok hok)
    exact ⟨its, _, n, hv, e, rfl, rfl⟩
  · exact ⟨its.toList, o, n, hv, KX _ _ e, hc, by simp [hd]⟩
theorem sqT_at {a : Addr} {xs : List V} (hok : HOk P w H h) (KX : K.In h) (q : SqT K H a xs) : ∃ (its : List Value) (o : Obj) (n : Nat), Vals xs its ∧ h.get? a = some o ∧ o.cls = .type "tuple" ∧ o.data = .seq its.toArray n := by
  rcases q with q | ⟨o, its, n, e, hc, hd, _, hv⟩
  · obtain ⟨_, its, hv, o, e, hc, n, hd⟩ := (show ObjOk P w H h a (.tup xs) from q.ok hok)
    exact ⟨its, o, n, hv, e, hc, hd⟩
  · exact ⟨its.toList, o, n, hv, KX _ _ e, hc, by simp [hd]⟩
mutual
theorem Dw.reads (hok : HOk P w H h) (KX : K.In h) : ∀ (d : WData) (v : V) (u : Value), Dw K H v d → RelV v u → ∃ as, ReadsW R cl h u d as
  | .none, _, _, x, r => by
    cases x
    cases r
    exact ⟨_, ReadsW.none⟩
  | .bool b, _, _, x, r => by
    cases x
    cases r
    exact ⟨_, ReadsW.bool b⟩
  | .int i, _, _, x, r => by
    cases x
    obtain ⟨t, rfl⟩ := r
    exact ⟨_, ReadsW.int i t⟩
  | .str s, _, _, x, r => by
    cases x
    obtain ⟨t, rfl⟩ := r
    exact ⟨_, ReadsW.str s t⟩
  | .bytes b, _, _, x, r => by
    cases x
    obtain ⟨t, rfl⟩ := r
    exact ⟨_, ReadsW.bytes _ t⟩
  | .list ds, _, _, x, r => by
    cases x with
    | lst hs ha =>
      cases r
      obtain ⟨its, o, n, rv, ho, hc, hd⟩ := sqL_at hok KX hs
      obtain ⟨as, hr⟩ := Dw.readsAll hok KX ds _ its ha rv
      exact ⟨_, ReadsW.list ho hc hd hr⟩
  | .tuple ds, _, _, x, r => by
    cases x with
    | tup hs ha =>
      cases r
      obtain ⟨its, o, n, rv, ho, hc, hd⟩ := sqT_at hok KX hs
      obtain ⟨as, hr⟩ := Dw.readsAll hok KX ds _ its ha rv
      exact ⟨_, ReadsW.tuple ho hc hd hr⟩
  | .float _, _, _, x, _ => by cases x
  | .dict _, _, _, x, _ => by cases x
  | .bytearray _, _, _, x, _ => by cases x
  | .set _, _, _, x, _ => by cases x
  | .frozenset _, _, _, x, _ => by cases x
  | .obj _ _, _, _, x, _ => by cases x
theorem Dw.readsAll (hok : HOk P w H h) (KX : K.In h) : ∀ (ds : List WData) (vs : List V) (us : List Value), DwAll K H vs ds → Vals vs us → ∃ as, ReadsAllW R cl h us ds as
  | [], _, _, x, r => by
    cases x
    cases r
    exact ⟨_, ReadsAllW.nil⟩
  | d :: ds, _, _, x, r => by
    cases x with
    | cons h1 h2 =>
      cases r with
      | cons r1 r2 =>
        obtain ⟨as, q1⟩ := Dw.reads hok KX d _ _ h1 r1
        obtain ⟨bs, q2⟩ := Dw.readsAll hok KX ds _ _ h2 r2
        exact ⟨_, ReadsAllW.cons q1 q2⟩
end
end
mutual
/-- data that a codec tells -/
def plW : WData → Bool
  | .none => true
  | .bool _ => true
  | .int _ => true
  | .str _ => true
  | .bytes _ => true
  | .list xs => plWs xs
  | .tuple xs => plWs xs
  | _ => false
def plWs : List WData → Bool
  | [] => true
  | x :: r => plW x && plWs r
end
theorem plWs_map {α : Type} {f : α → WData} (h : ∀ a, plW (f a) = true) : ∀ l : List α, plWs (l.map f) = true
  | [] => rfl
  | x :: r => by
    show (plW (f x) && plWs (r.map f)) = true
    rw [h x, plWs_map h r] <;> rfl
theorem pl_enc : ∀ (c : Codec) (a : c.denote), plW (c.enc a) = true
  | .unit, _ => rfl
  | .bool, _ => rfl
  | .int _ _, _ => rfl
  | .nat _ _, _ => rfl
  | .u8, _ => rfl
  | .bytes _ _, _ => rfl
  | .text _ _ _ _, _ => rfl
  | .list _ _ c, a => plWs_map (fun x => pl_enc c x) a
  | .pair c d, a => by
    show (plW (c.enc a.1) && (plW (d.enc a.2) && true)) = true
    rw [pl_enc c a.1, pl_enc d a.2] <;> rfl
  | .triple c d e, a => by
    show (plW (c.enc a.1) && (plW (d.enc a.2.1) && (plW (e.enc a.2.2) && true))) = true
    rw [pl_enc c a.1, pl_enc d a.2.1, pl_enc e a.2.2] <;> rfl
  | .option c, none => rfl
  | .option c, some x => pl_enc c x
theorem pl_encAll : ∀ (cs : List Codec) (a : Codec.denoteAll cs), plWs (Codec.encAll cs a) = true
  | [], _ => rfl
  | c :: cs, a => by
    show (plW (c.enc a.1) && plWs (Codec.encAll cs a.2)) = true
    rw [pl_enc c a.1, pl_encAll cs a.2] <;> rfl
theorem weight_mem : ∀ {xs : List WData} {d : WData}, d ∈ xs → d.weight ≤ WData.weightAll xs
  | [], d, h => absurd h (by simp)
  | x :: r, d, h => by
    show d.weight ≤ x.weight + 1 + WData.weightAll r
    rcases List.mem_cons.mp h with e | m
    · rw [e]
      omega
    · have z := weight_mem m
      omega
def toV : Value → V
  | .none => .non
  | .bool b => .bl b
  | .int i _ => .int i
  | .str x _ => .str x
  | .bytes b _ => .byt b
  | .ref a => .ref a
  | _ => .non
def OkU (A : List Addr) : Value → Prop
  | .none => True
  | .bool _ => True
  | .int _ _ => True
  | .str _ _ => True
  | .bytes _ _ => True
  | .ref a => a ∈ A
  | _ => False
theorem OkU.mono {A B : List Addr} (h : ∀ a ∈ A, a ∈ B) : ∀ {u : Value}, OkU A u → OkU B u := fun {u} x => by
  cases u with
  | ref a => exact h a x
  | none => trivial
  | bool b => trivial
  | int i t => trivial
  | str s t => trivial
  | bytes b t => trivial
  | _ => exact False.elim x
theorem relV_toV {A : List Addr} {u : Value} (x : OkU A u) : RelV (toV u) u := by
  cases u with
  | ref a => rfl
  | none => rfl
  | bool b => rfl
  | int i t => exact ⟨t, rfl⟩
  | str s t => exact ⟨t, rfl⟩
  | bytes b t => exact ⟨t, rfl⟩
  | _ => exact False.elim x
theorem vals_toV {A : List Addr} : ∀ {vs : List Value}, (∀ u ∈ vs, OkU A u) → Vals (vs.map toV) vs
  | [], _ => .nil
  | u :: r, h => .cons (relV_toV (h u (List.mem_cons_self ..))) (vals_toV fun x hx => h x (List.mem_cons_of_mem _ hx))
def ArgOb (h : Heap) (A : List Addr) (a : Addr) : Prop := ∃ vs : List Value, vs.length ≤ sizeLine ∧ (∀ u ∈ vs, OkU A u) ∧
  (h.get? a = some { cls := .type "list", data := .seq vs.toArray } ∨ h.get? a = some { cls := .type "tuple", data := .seq vs.toArray })
theorem ArgOb.mono {h : Heap} {A B : List Addr} {a : Addr} (k : ∀ a ∈ A, a ∈ B) (x : ArgOb h A a) : ArgOb h B a := by
  obtain ⟨vs, h1, h2, h3⟩ := x
  exact ⟨vs, h1, fun u hu => (h2 u hu).mono k, h3⟩
theorem wellAll_len {P : Params} {h : Heap} : ∀ {vs : List Value} {ds : List WData}, WellAll P h vs ds → vs.length = ds.length
  | _, _, .nil => rfl
  | _, _, .cons _ b => by
    show _ + 1 = _ + 1
    rw [wellAll_len b]
theorem well_list {P : Params} {h : Heap} {v : Value} {ds : List WData} (x : Well P h v (.list ds)) : ∃ (a : Addr) (vs : List Value), v = .ref a ∧ h.get? a = some { cls := .type "list", data := .seq vs.toArray } ∧ WellAll P h vs ds := by
  cases x with
  | list ho hall => exact ⟨_, _, rfl, ho, hall⟩
theorem well_tuple {P : Params} {h : Heap} {v : Value} {ds : List WData} (x : Well P h v (.tuple ds)) : ∃ (a : Addr) (vs : List Value), v = .ref a ∧ h.get? a = some { cls := .type "tuple", data := .seq vs.toArray } ∧ WellAll P h vs ds := by
  cases x with
  | tuple ho hall => exact ⟨_, _, rfl, ho, hall⟩
theorem well_cons {P : Params} {h : Heap} {us : List Value} {d : WData} {ds : List WData} (x : WellAll P h us (d :: ds)) : ∃ (v : Value) (vs : List Value), us = v :: vs ∧ Well P h v d ∧ WellAll P h vs ds := by
  cases x with
  | cons a b => exact ⟨_, _, rfl, a, b⟩
theorem line_of {n : Nat} (h : n ≤ 1048576) : n ≤ sizeLine := Nat.le_trans h (by decide)
section
variable {P : Params} {h : Heap}
mutual
theorem area_one : ∀ (d : WData) (v : Value), Well P h v d → plW d = true → d.weight ≤ 1048576 → ∃ A : List Addr, OkU A v ∧ ∀ a ∈ A, ArgOb h A a
  | .none, _, x, _, _ => by
    cases x
    exact ⟨[], trivial, fun a m => absurd m (by simp)⟩
  | .bool b, _, x, _, _ => by
    cases x
    exact ⟨[], trivial, fun a m => absurd m (by simp)⟩
  | .int i, _, x, _, _ => by
    cases x
    exact ⟨[], trivial, fun a m => absurd m (by simp)⟩
  | .str s, _, x, _, _ => by
    cases x
    exact ⟨[], trivial, fun a m => absurd m (by simp)⟩
  | .bytes b, _, x, _, _ => by
    cases x
    exact ⟨[], trivial, fun a m => absurd m (by simp)⟩
  | .list ds, _, x, p, z => by
    obtain ⟨a, vs, rfl, ho, hall⟩ := well_list x
    have z2 : WData.weightAll ds ≤ 1048576 := z
    obtain ⟨A, h1, h2⟩ := area_all ds _ hall p fun d hd => Nat.le_trans (weight_mem hd) z2
    have k : ∀ b ∈ A, b ∈ a :: A := fun b hb => List.mem_cons_of_mem _ hb
    refine ⟨a :: A, List.mem_cons_self .., fun b hb => ?_⟩
    rcases List.mem_cons.mp hb with e | m
    · rw [e]
      exact ⟨vs, line_of (by rw [wellAll_len hall]; exact Nat.le_trans (PySem.W.length_le_weightAllW ds) z2), fun u hu => (h1 u hu).mono k, .inl ho⟩
    · exact (h2 b m).mono k
  | .tuple ds, _, x, p, z => by
    obtain ⟨a, vs, rfl, ho, hall⟩ := well_tuple x
    have z2 : WData.weightAll ds ≤ 1048576 := z
    obtain ⟨A, h1, h2⟩ := area_all ds _ hall p fun d hd => Nat.le_trans (weight_mem hd) z2
    have k : ∀ b ∈ A, b ∈ a :: A := fun b hb => List.mem_cons_of_mem _ hb
    refine ⟨a :: A, List.mem_cons_self .., fun b hb => ?_⟩
    rcases List.mem_cons.mp hb with e | m
    · rw [e]
      exact ⟨vs, line_of (by rw [wellAll_len hall]; exact Nat.le_trans (PySem.W.length_le_weightAllW ds) z2), fun u hu => (h1 u hu).mono k, .inr ho⟩
    · exact (h2 b m).mono k
  | .float _, _, _, p, _ => Bool.noConfusion (show false = true from p)
  | .dict _, _, _, p, _ => Bool.noConfusion (show false = true from p)
  | .bytearray _, _, _, p, _ => Bool.noConfusion (show false = true from p)
  | .set _, _, _, p, _ => Bool.noConfusion (show false = true from p)
  | .frozenset _, _, _, p, _ => Bool.noConfusion (show false = true from p)
  | .obj _ _, _, _, p, _ => Bool.noConfusion (show false = true from p)
theorem area_all : ∀ (ds : List WData) (vs : List Value), WellAll P h vs ds → plWs ds = true → (∀ d ∈ ds, d.weight ≤ 1048576) → ∃ A : List Addr, (∀ u ∈ vs, OkU A u) ∧ ∀ a ∈ A, ArgOb h A a
  | [], _, x, _, _ => by
    cases x
    exact ⟨[], fun u m => absurd m (by simp), fun a m => absurd m (by simp)⟩
  | d :: ds, _, x, p, z => by
    obtain ⟨v, vs, rfl, x1, x2⟩ := well_cons x
    have q : plW d = true ∧ plWs ds = true := Bool.and_eq_true_iff.mp p
    obtain ⟨A, a1, a2⟩ := area_one d v x1 q.1 (z d (List.mem_cons_self ..))
    obtain ⟨B, b1, b2⟩ := area_all ds vs x2 q.2 fun e he => z e (List.mem_cons_of_mem _ he)
    have kA : ∀ b ∈ A, b ∈ A ++ B := fun b hb => List.mem_append.mpr (.inl hb)
    have kB : ∀ b ∈ B, b ∈ A ++ B := fun b hb => List.mem_append.mpr (.inr hb)
    refine ⟨A ++ B, fun u hu => ?_, fun b hb => ?_⟩
    · rcases List.mem_cons.mp hu with e | m
      · rw [e]
        exact a1.mono kA
      · exact (b1 u m).mono kB
    · rcases List.mem_append.mp hb with m | m
      · exact (a2 b m).mono kA
      · exact (b2 b m).mono kB
end
end
def hoOf (o : Obj) : Option HO := match o.data with
  | .seq vs _ => if (o.cls == Value.type "list") = true then some (.frz o (.lst (vs.toList.map toV))) else some (.frz o (.tup (vs.toList.map toV)))
  | _ => none
def argH (K : PySem.W.Frag) (h : Heap) (A : List Addr) : Hp := fun b => if b ∈ A then (if (K.lookup b).isNone = true then (h.get? b).bind hoOf else none) else none
def OnlyF (H : Hp) : Prop := ∀ b, H b = none ∨ ∃ o u, H b = some (.frz o u)
theorem hoOf_lst (vs : List Value) : hoOf { cls := .type "list", data := .seq vs.toArray } = some (.frz { cls := .type "list", data := .seq vs.toArray } (.lst (vs.map toV))) := by
  show (if (Value.type "list" == Value.type "list") = true then some (HO.frz { cls := .type "list", data := .seq vs.toArray } (.lst (vs.toArray.toList.map toV))) else some (HO.frz { cls := .type "list", data := .seq vs.toArray } (.tup (vs.toArray.toList.map toV)))) = _
  rw [if_pos (beq_self_eq_true _)]
theorem hoOf_tup (vs : List Value) : hoOf { cls := .type "tuple", data := .seq vs.toArray } = some (.frz { cls := .type "tuple", data := .seq vs.toArray } (.tup (vs.map toV))) := by
  show (if (Value.type "tuple" == Value.type "list") = true then some (HO.frz { cls := .type "tuple", data := .seq vs.toArray } (.lst (vs.toArray.toList.map toV))) else some (HO.frz { cls := .type "tuple", data := .seq vs.toArray } (.tup (vs.toArray.toList.map toV)))) = _
  rw [if_neg (by decide)]
section
variable {P : Program} {w : World} {K : PySem.W.Frag} {h : Heap} {A : List Addr}
theorem argH_at {b : Addr} {o : Obj} (hb : b ∈ A) (hk : K.lookup b = none) (e : h.get? b = some o) : argH K h A b = hoOf o := by
  unfold argH
  rw [if_pos hb, hk, if_pos (show (none : Option Obj).isNone = true from rfl), e] <;> rfl
theorem of_argH {b : Addr} {u : HO} (q : argH K h A b = some u) : b ∈ A ∧ K.lookup b = none := by
  unfold argH at q
  by_cases hb : b ∈ A
  · rw [if_pos hb] at q
    cases hk : K.lookup b with
    | none => exact ⟨hb, rfl⟩
    | some o =>
      rw [hk, if_neg (by simp)] at q
      cases q
  · rw [if_neg hb] at q
    cases q
theorem argH_is (ar : ∀ a ∈ A, ArgOb h A a) {b : Addr} {u : HO} (q : argH K h A b = some u) : K.lookup b = none ∧ ∃ vs : List Value, vs.length ≤ sizeLine ∧ (∀ u ∈ vs, OkU A u) ∧
    ((h.get? b = some { cls := .type "list", data := .seq vs.toArray } ∧ u = .frz { cls := .type "list", data := .seq vs.toArray } (.lst (vs.map toV))) ∨
     (h.get? b = some { cls := .type "tuple", data := .seq vs.toArray } ∧ u = .frz { cls := .type "tuple", data := .seq vs.toArray } (.tup (vs.map toV)))) := by
  obtain ⟨hb, hk⟩ := of_argH q
  obtain ⟨vs, h1, h2, h3⟩ := ar b hb
  refine ⟨hk, vs, h1, h2, ?_⟩
  rcases h3 with e | e
  · rw [argH_at hb hk e, hoOf_lst] at q
    exact .inl ⟨e, (Option.some.inj q).symm⟩
  · rw [argH_at hb hk e, hoOf_tup] at q
    exact .inr ⟨e, (Option.some.inj q).symm⟩
theorem argH_only (ar : ∀ a ∈ A, ArgOb h A a) : OnlyF (argH K h A) := fun b => by
  cases q : argH K h A b with
  | none => exact .inl rfl
  | some u =>
    obtain ⟨_, vs, _, _, ⟨_, e⟩ | ⟨_, e⟩⟩ := argH_is ar q
    · exact .inr ⟨_, _, by rw [e]⟩
    · exact .inr ⟨_, _, by rw [e]⟩
theorem argH_ok (ar : ∀ a ∈ A, ArgOb h A a) : HOk P w (argH K h A) h := fun b u q => by
  obtain ⟨_, vs, h1, h2, ⟨e, rfl⟩ | ⟨e, rfl⟩⟩ := argH_is ar q
  · exact ⟨e, by rw [List.length_map]; exact h1, vs, _, vals_toV h2, e⟩
  · exact ⟨e, by rw [List.length_map]; exact h1, vs, vals_toV h2, _, e, rfl, _, rfl⟩
theorem seq_inj {c c' : Value} {vs us : List Value} (e : (some { cls := c, data := .seq vs.toArray } : Option Obj) = some { cls := c', data := .seq us.toArray }) : c = c' ∧ vs = us := by
  have e1 := Option.some.inj e
  have e2 : c = c' := congrArg Obj.cls e1
  have e3 : Data.seq vs.toArray = Data.seq us.toArray := congrArg Obj.data e1
  injection e3 with e4
  refine ⟨e2, ?_⟩
  have e5 := congrArg Array.toList e4
  simpa using e5
theorem argL (KX : K.In h) (ar : ∀ a ∈ A, ArgOb h A a) {a : Addr} {vs : List Value} (ha : a ∈ A) (e : h.get? a = some { cls := .type "list", data := .seq vs.toArray }) : (∀ u ∈ vs, OkU A u) ∧ SqL K (argH K h A) a (vs.map toV) := by
  obtain ⟨us, h1, h2, h3⟩ := ar a ha
  have hu : us = vs := by
    rcases h3 with q | q
    · rw [e] at q
      exact (seq_inj q).2.symm
    · rw [e] at q
      exact absurd (Value.type.inj (seq_inj q).1) (by decide)
  subst hu
  refine ⟨h2, ?_⟩
  cases hk : K.lookup a with
  | none => exact .inl (.inr ⟨_, by rw [argH_at ha hk e, hoOf_lst]⟩)
  | some o =>
    have e2 := KX a o hk
    rw [e] at e2
    obtain rfl := Option.some.inj e2
    exact .inr ⟨_, us.toArray, _, hk, rfl, rfl, rfl, by rw [List.size_toArray]; exact h1, by simpa using vals_toV h2⟩
theorem argT (KX : K.In h) (ar : ∀ a ∈ A, ArgOb h A a) {a : Addr} {vs : List Value} (ha : a ∈ A) (e : h.get? a = some { cls := .type "tuple", data := .seq vs.toArray }) : (∀ u ∈ vs, OkU A u) ∧ SqT K (argH K h A) a (vs.map toV) := by
  obtain ⟨us, h1, h2, h3⟩ := ar a ha
  have hu : us = vs := by
    rcases h3 with q | q
    · rw [e] at q
      exact absurd (Value.type.inj (seq_inj q).1) (by decide)
    · rw [e] at q
      exact (seq_inj q).2.symm
  subst hu
  refine ⟨h2, ?_⟩
  cases hk : K.lookup a with
  | none => exact .inl (.inr ⟨_, by rw [argH_at ha hk e, hoOf_tup]⟩)
  | some o =>
    have e2 := KX a o hk
    rw [e] at e2
    obtain rfl := Option.some.inj e2
    exact .inr ⟨_, us.toArray, _, hk, rfl, rfl, by rw [List.size_toArray]; exact h1, by simpa using vals_toV h2⟩
mutual
theorem dw_one {Pm : Params} (KX : K.In h) (ar : ∀ a ∈ A, ArgOb h A a) : ∀ (d : WData) (v : Value), Well Pm h v d → plW d = true → OkU A v → Dw K (argH K h A) (toV v) d
  | .none, _, x, _, _ => by
    cases x
    exact .non
  | .bool b, _, x, _, _ => by
    cases x
    exact .bl b
  | .int i, _, x, _, _ => by
    cases x
    exact .int i
  | .str s, _, x, _, _ => by
    cases x
    exact .str s
  | .bytes b, _, x, _, _ => by
    cases x
    have z := Dw.byt (K := K) (H := argH K h A) b.toArray
    exact z
  | .list ds, _, x, p, hu => by
    obtain ⟨a, vs, rfl, ho, hall⟩ := well_list x
    obtain ⟨h2, hs⟩ := argL KX ar hu ho
    exact .lst hs (dw_all KX ar ds _ hall p h2)
  | .tuple ds, _, x, p, hu => by
    obtain ⟨a, vs, rfl, ho, hall⟩ := well_tuple x
    obtain ⟨h2, hs⟩ := argT KX ar hu ho
    exact .tup hs (dw_all KX ar ds _ hall p h2)
  | .float _, _, _, p, _ => Bool.noConfusion (show false = true from p)
  | .dict _, _, _, p, _ => Bool.noConfusion (show false = true from p)
  | .bytearray _, _, _, p, _ => Bool.noConfusion (show false = true from p)
  | .set _, _, _, p, _ => Bool.noConfusion (show false = true from p)
  | .frozenset _, _, _, p, _ => Bool.noConfusion (show false = true from p)
  | .obj _ _, _, _, p, _ => Bool.noConfusion (show false = true from p)
theorem dw_all {Pm : Params} (KX : K.In h) (ar : ∀ a ∈ A, ArgOb h A a) : ∀ (ds : List WData) (vs : List Value), WellAll Pm h vs ds → plWs ds = true → (∀ u ∈ vs, OkU A u) → DwAll K (argH K h A) (vs.map toV) ds
  | [], _, x, _, _ => by
    cases x
    exact .nil
  | d :: ds, _, x, p, hu => by
    obtain ⟨v, vs, rfl, x1, x2⟩ := well_cons x
    have q : plW d = true ∧ plWs ds = true := Bool.and_eq_true_iff.mp p
    exact .cons (dw_one KX ar d v x1 q.1 (hu _ (List.mem_cons_self ..))) (dw_all KX ar ds vs x2 q.2 fun u m => hu u (List.mem_cons_of_mem _ m))
end
end
theorem spec_call {P : Program} {w : World} {K : PySem.W.Frag} {mg mb : Str → Option Value} {CX : CXT} {k : Nat} {fa : Addr} {fd : FuncData} {ps : List Str} {sp : Sp} {s₁ : Shared} {vals : List Value} {ds : List WData} {R : PySem.W.WRecords} {cl : Str → Option Addr} {d0 : WData}
    (KX : K.In s₁.heap) (hns : s₁.heap.Ns mainGlobals mg) (hb : s₁.heap.Ns builtinsNs mb) (hbb : ∀ x : Str, x ≠ "__name__" → mb x = bootBuiltins x) (hlim : s₁.heap.NoLimit) (hg : s₁.gens = #[])
    (hwl : WellAll w.params s₁.heap vals ds) (hpl : plWs ds = true) (hwt : ∀ d ∈ ds, d.weight ≤ 1048576) (hr : Room k callerA)
    (F : ∀ base : Heap, K.In base → base.Ns mainGlobals mg → FnOk P w K mg base CX k fa fd ps sp) (hbind : ∀ (s : Shared) (us : List Value), us.length = ps.length → BindsTo s fd ⟨us, []⟩ (ps.zip us)) (hlen : ds.length = ps.length)
    (hsp : ∀ (H : Hp) (xs : List V), OnlyF H → DwAll K H xs ds → sp xs H (fun v H' => Dw K H' v d0) fun _ _ _ => False)
    (hCX : ∀ H e s', CX [] H s₁ (fun _ _ _ => False) e s' → False) :
    codeAny (model P w) callerA (.call (.ref fa) ⟨vals, []⟩) (fun r s' => ∃ u as, r = .ok (.ret u) ∧ ReadsW R cl s'.heap u d0 as ∧ OldK s₁.heap s'.heap ∧ s'.os = s₁.os ∧ AllBare s'.gens) s₁ := by
  obtain ⟨A, ho, ar⟩ := area_all ds vals hwl hpl hwt
  have hO : OnlyF (argH K s₁.heap A) := argH_only ar
  have hok : HOk P w (argH K s₁.heap A) s₁.heap := argH_ok ar
  have hS := dw_all KX ar ds vals hwl hpl ho
  have hV := vals_toV ho
  have hK : ∀ b u, argH K s₁.heap A b = some u → K.lookup b = none := fun b u q => (argH_is ar q).1
  have noA : ∀ {b : Addr} {o : Obj} {es : Array DictEntry} {ep : Nat}, s₁.heap.get? b = some o → o.data = .dict es ep → argH K s₁.heap A b = none := fun {b o es ep} e d => by
    cases q : argH K s₁.heap A b with
    | none => rfl
    | some u =>
      obtain ⟨_, vs, _, _, ⟨e2, _⟩ | ⟨e2, _⟩⟩ := argH_is ar q
      · rw [e2] at e
        cases e
        have d' : Data.seq vs.toArray _ = Data.dict es ep := d
        cases d'
      · rw [e2] at e
        cases e
        have d' : Data.seq vs.toArray _ = Data.dict es ep := d
        cases d'
  generalize argH K s₁.heap A = H at hO hok hS hK noA
  have base_of : ∀ {b : Addr} {o : Obj}, s₁.heap.get? b = some o → H b = none → (hidT s₁.heap H).get? b = some o := fun e n => hidT_get e n
  have nsK : ∀ {b : Addr} {m : Str → Option Value}, s₁.heap.Ns b m → (hidT s₁.heap H).Ns b m := fun {b m} ⟨o, es, ep, e, d, r⟩ => ⟨o, es, ep, base_of e (noA e d), d, r⟩
  have nK : ∀ b o, K.lookup b = some o → H b = none := fun b o e => by
    cases q : H b with
    | none => rfl
    | some u =>
      rw [hK b u q] at e
      cases e
  have hKb : K.In (hidT s₁.heap H) := fun b o e => base_of (KX b o e) (nK b o e)
  have hM : Mod K mg (hidT s₁.heap H) := ⟨hKb, nsK hns, ⟨mb, nsK hb, hbb⟩, let ⟨mc, h1, h2⟩ := hlim; ⟨mc, nsK h1, h2⟩⟩
  have e0 : Env0 P w K mg (hidT s₁.heap H) callerA [] s₁ H := ⟨rfl, hM, fun b o e => of_hidT e, Nat.le_of_eq (hidT_size _ _), trivial, fun b hb => absurd (show b ∈ ([] : List Addr) from hb) (by simp), hok, .of_eq hg⟩
  have hl : vals.length = ps.length := by rw [wellAll_len hwl]; exact hlen
  refine codeAny_mono ((F _ hKb (nsK hns)).run callerA [] s₁ H ⟨vals, []⟩ vals (vals.map toV) _ _ hr e0 (hbind s₁ vals hl) hV (hsp H _ hO hS)) fun r s' x => ?_
  cases r with
  | error e => exact (hCX H e s' x).elim
  | ok fl =>
    cases fl with
    | next => exact False.elim x
    | brk => exact False.elim x
    | cont => exact False.elim x
    | ret u =>
      obtain ⟨v, H', os, bare, un, hok', r', q⟩ := x
      have kept : ∀ b o, s₁.heap.get? b = some o → s'.heap.get? b = some o := fun b o e => by
        cases q2 : H b with
        | none => exact un.keep b o e q2 (by intro z; exact absurd (show b ∈ ([] : List Addr) from z) (by simp)) (by simp)
        | some u2 =>
          rcases hO b with z | ⟨ob, u3, z⟩
          · rw [q2] at z
            cases z
          · have z2 := un.frzs b ob _ z
            obtain ⟨e1, _⟩ := hok b _ z
            obtain ⟨e2, _⟩ := hok' b _ z2
            rw [e] at e1
            cases e1
            exact e2
      have KX' : K.In s'.heap := fun b o e => kept b o (KX b o e)
      obtain ⟨as, hrd⟩ := Dw.reads (R := R) (cl := cl) hok' KX' d0 v u q r'
      exact ⟨u, as, rfl, hrd, OldK.of_keep kept, os, bare⟩
theorem layable_weight {ds : List WData} (h : WData.layableAll ds = true) : ∀ d ∈ ds, d.weight ≤ 1048576 := fun d hd =>
  (PySem.W.layableW_iff.mp (List.all_eq_true.mp h d hd)).2.2
theorem encAll_len : ∀ (cs : List Codec) (a : Codec.denoteAll cs), (Codec.encAll cs a).length = cs.length
  | [], _ => rfl
  | c :: cs, a => by
    show (Codec.encAll cs a.2).length + 1 = cs.length + 1
    rw [encAll_len cs a.2]
theorem walk_spec {r : OpenSpec} {k : Nat} {q : Program} {loose : List Str} {XP : (Str → Option Value) → Heap → Prop} {YP : World → Heap → Prop} {d : DefRec} {K : Params → PySem.W.Frag} {CX : World → CXT} {ps : List Str} {sp : World → Sp}
    (hwell : r.wellSaid = true) (hdf : d.params.defaults = []) (hlen : r.args.length = ps.length) (hr : Room k callerA)
    (hY : ∀ (w : World) (h : Heap), YP w h → (K w.params).In h)
    (F : ∀ (w : World) (mg : Str → Option Value) (fa : Addr) (h : Heap), YP w h → (K w.params).In h → h.Ns mainGlobals mg → mg d.name = some (.ref fa) →
      ∃ fd : FuncData, (∀ (s : Shared) (us : List Value), us.length = ps.length → BindsTo s fd ⟨us, []⟩ (ps.zip us)) ∧
        ∀ base : Heap, (K w.params).In base → base.Ns mainGlobals mg → FnOk r.prog w (K w.params) mg base (CX w) k fa fd ps (sp w))
    (hsp : ∀ (w : World) (H : Hp) (xs : List V) (a : Codec.denoteAll r.args), OnlyF H → Codec.withinAll r.args a = true → Codec.app r.args r.asked a = true → DwAll (K w.params) H xs (Codec.encAll r.args a) →
      sp w xs H (fun v H' => Dw (K w.params) H' v (r.ret.enc (Codec.app r.args r.f a))) fun _ _ _ => False)
    (hCX : ∀ (w : World) (H : Hp) (s : Shared) (e : Value) (s' : Shared), CX w [] H s (fun _ _ _ => False) e s' → False) :
    PySem.W.WalkOS q loose XP YP r d [] (fun f vs => PySem.call f vs) := by
  intro w s_0 s₁ mg mb G Y fa o pm cd doc dV kV ho hd hcd hD hmg hg args vals as hpre hlay hrd hwl hlo
  obtain ⟨a, e1, e2⟩ := PySem.W.os_pre_some hpre
  obtain ⟨e3, hwi⟩ := Codec.encAll_of_decAll r.args args a e1
  subst e3
  have KX := hY w _ Y
  obtain ⟨fd, hb, hF⟩ := F w mg fa _ Y KX G.T.g hmg
  refine PySem.W.enter_call (codeAny_mono (spec_call (R := []) (cl := classAt s_0.heap) (d0 := r.ret.enc (Codec.app r.args r.f a)) KX G.T.g G.T.b G.T.builtins G.T.nolimit hg hwl (pl_encAll _ _) (layable_weight hlay) hr hF hb (by rw [encAll_len]; exact hlen)
    (fun H xs hO hS => hsp w H xs a hO hwi e2 hS) fun H e s' => hCX w H s₁ e s') fun r' s' hq => ?_)
  obtain ⟨u, as', rfl, h1, h2, h3, h4⟩ := hq
  exact ⟨.inl ⟨u, _, as', rfl, fun _ => rfl, h1, (OpenSpec.post_iff hwell hwi _ _).mpr rfl, fun z => Bool.noConfusion (show false = true from z)⟩, h2, h3, h4⟩
theorem walk_specK {r : OpenSpec} {k : Nat} {q : Program} {loose : List Str} {XP : (Str → Option Value) → Heap → Prop} {YP : World → Heap → Prop} {d : DefRec} {K : Params → PySem.W.Frag} {CX : CXT} {ps : List Str} {sp : PySem.W.Frag → Sp}
    (hwell : r.wellSaid = true) (hdf : d.params.defaults = []) (hlen : r.args.length = ps.length) (hr : Room k callerA)
    (hY : ∀ (w : World) (h : Heap), YP w h → (K w.params).In h)
    (F : ∀ (w : World) (mg : Str → Option Value) (fa : Addr) (h : Heap), YP w h → (K w.params).In h → h.Ns mainGlobals mg → mg d.name = some (.ref fa) →
      ∃ fd : FuncData, (∀ (s : Shared) (us : List Value), us.length = ps.length → BindsTo s fd ⟨us, []⟩ (ps.zip us)) ∧
        ∀ base : Heap, (K w.params).In base → base.Ns mainGlobals mg → FnOk r.prog w (K w.params) mg base CX k fa fd ps (sp (K w.params)))
    (hsp : ∀ (K : PySem.W.Frag) (H : Hp) (xs : List V) (a : Codec.denoteAll r.args), OnlyF H → Codec.withinAll r.args a = true → Codec.app r.args r.asked a = true → DwAll K H xs (Codec.encAll r.args a) →
      sp K xs H (fun v H' => Dw K H' v (r.ret.enc (Codec.app r.args r.f a))) fun _ _ _ => False)
    (hCX : ∀ (H : Hp) (s : Shared) (e : Value) (s' : Shared), CX [] H s (fun _ _ _ => False) e s' → False) :
    PySem.W.WalkOS q loose XP YP r d [] (fun f vs => PySem.call f vs) :=
  walk_spec (K := K) (CX := fun _ => CX) (sp := fun w => sp (K w.params)) hwell hdf hlen hr hY F (fun w H xs a h1 h2 h3 h4 => hsp (K w.params) H xs a h1 h2 h3 h4) fun _ H s e s' => hCX H s e s'
end L2
-- rests on (row put in by the clerk, for the bench that shows a file only what it spells): KE.SpHead KE.OsShapes
end
set_option Elab.async false
set_option linter.all false
set_option maxRecDepth 100000
set_option maxHeartbeats 4000000
namespace HT
open PySem PyProof.Rows
/-- t >= u of tuples of ints -/
def lexGe : List Int → List Int → Bool
  | [], [] => true
  | [], _ :: _ => false
  | _ :: _, [] => true
  | x :: xs, y :: ys => if x = y then lexGe xs ys else decide (y ≤ x)
theorem lexGe_cons (x y : Int) (xs ys : List Int) : lexGe (x :: xs) (y :: ys) = if x = y then lexGe xs ys else decide (y ≤ x) := rfl
theorem rcGe_int (A : Around) (s : Shared) (a : Int) (t : Tok) (c : Int) (u : Tok) (prog : Program) (w : World) (E : Value → Shared → Prop) (Q : Value → Shared → Prop) (h : Q (.bool (decide (c ≤ a))) s) :
    wpAny (model prog w) A (richCompare .GtE (.int a t) (.int c u)) Q E s :=
  (PyProof.Rows.ge_int h : wpAny (model prog w) A (compareOp .GtE (.int a t) (.int c u)) Q E s)
section
open PySem.SeqAt
open PySem.AutoSeq1 (wpAny_loadPart')
open PySem.MeetsSeq PySem.MeetsSeq2 PySem.MeetsSeq3
theorem tuple_ge_ints (l b : Addr) (items items2 : Array Value) (n n2 : Nat) (dd dd2 : Option Addr) (sl sl2 : Array (Option Value)) (ns ms : List Int) (hi : IntsAre items.toList ns) (hj : IntsAre items2.toList ms) :
    Meets (Builtin.«tuple.__ge__» ⟨[.ref l, .ref b], []⟩)
      (fun _ R s => s.heap.get? l = some { cls := .type "tuple", dict := dd, data := .seq items n, slots := sl } ∧ s.heap.get? b = some { cls := .type "tuple", dict := dd2, data := .seq items2 n2, slots := sl2 } ∧
        R (.ok (.ret (.bool (lexGe ns ms)))) s) :=
  .of_wp fun prog w A R s h => by
    obtain ⟨hp, g, d, tk, os⟩ := s; obtain ⟨hl, hb, h⟩ := h
    have f2 := AutoSeq1.sub_tuple_tuple
    have z1 : items.size = ns.length := by rw [← hi.length]; simp
    have z2 : items2.size = ms.length := by rw [← hj.length]; simp
    wp_walk using wpAny_loadPart' hl, wpAny_loadPart' hb, wpAny_forIn_list _ (fun rest b s' => b.1 = none ∧ s' = ⟨hp, g, d, tk, os⟩ ∧ ∃ (vs ws : List Value) (ns' ms' : List Int), rest = vs.zip ws ∧
      IntsAre vs ns' ∧ IntsAre ws ms' ∧ ns'.length + items2.size = ms'.length + items.size ∧ R (.ok (.ret (.bool (lexGe ns' ms')))) ⟨hp, g, d, tk, os⟩) _
    case turn =>
      rintro ⟨y, x⟩ rest b s' ⟨hb', rfl, vs, ws, ns', ms', hz, hvi, hwi, hlen, hR⟩
      cases hvi with
      | nil => rw [List.zip_nil_left] at hz; cases hz
      | cons a t hvi' =>
        cases hwi with
        | nil => rw [List.zip_nil_right] at hz; cases hz
        | cons c u hwi' =>
          rw [List.zip_cons_cons] at hz
          injection hz with hyx hrest
          injection hyx with hy hx
          subst hy hx
          rw [lexGe_cons] at hR
          simp only [List.length_cons] at hlen
          obtain ⟨e, he, hiff⟩ := eqAt_int A.in1 ⟨hp, g, d, tk, os⟩ a t c u
          refine wpAny_bind (he prog w _ _ ?_)
          cases e with
          | true =>
            rw [if_pos (hiff.mp rfl)] at hR
            wp_walk
            exact ⟨rfl, rfl, _, _, _, _, hrest, hvi', hwi', by omega, hR⟩
          | false =>
            rw [if_neg (fun q => absurd (hiff.mpr q) Bool.false_ne_true)] at hR
            have hri := rcGe_int A.in1 ⟨hp, g, d, tk, os⟩ a t c u prog w
            wp_walk using hri
            exact ⟨_, rfl, by simpa using hR⟩
    case fin =>
      rintro ⟨b1, b2⟩ s' ⟨hb', rfl, vs, ws, ns', ms', hz, hvi, hwi, hlen, hR⟩
      simp only at hb'
      subst hb'
      have hv : lexGe ns' ms' = decide (items.size ≥ items2.size) := by
        cases hvi with
        | nil =>
          cases hwi with
          | nil =>
            simp only [List.length_nil] at hlen
            exact (decide_eq_true (by omega)).symm
          | cons c u hw =>
            simp only [List.length_nil, List.length_cons] at hlen
            exact (decide_eq_false (by omega)).symm
        | cons a t hv =>
          cases hwi with
          | nil =>
            simp only [List.length_nil, List.length_cons] at hlen
            exact (decide_eq_true (by omega)).symm
          | cons c u hw =>
            rw [List.zip_cons_cons] at hz
            cases hz
      rw [hv] at hR
      wp_walk
      exact ⟨_, rfl, by simpa [Builtin.Tuple.tupleCompareSizes] using hR⟩
    case h =>
      exact ⟨rfl, rfl, items.toList, items2.toList, ns, ms, rfl, hi, hj, by omega, h⟩
set_option maxRecDepth 100000 in
theorem list_extend_tup (l : Addr) (items : Array Value) (n : Nat) (b : Addr) (items2 : Array Value) (n2 : Nat) (dd2 : Option Addr) (sl2 : Array (Option Value)) (hs0 : ¬(!items.isEmpty && Builtin.List.listTooLong (items.size + items2.size)) = true) (hs1 : items.size ≤ sizeLine) (hs2 : items.size + items2.size ≤ sizeLine + 1) :
    Meets (Builtin.«list.extend» ⟨[.ref l, .ref b], []⟩) (fun _ R s => s.heap.get? l = some { cls := .type "list", dict := none, data := .seq items n, slots := #[] } ∧ s.heap.get? b = some { cls := .type "tuple", dict := dd2, data := .seq items2 n2, slots := sl2 } ∧ R (.ok (.ret Value.none)) { s with heap := s.heap.update l (Obj.mapSeq fun x => x ++ items2), toks := s.toks }) :=
  .of_wp fun prog w A R s h => by
    obtain ⟨hp, g, d, tk, os⟩ := s; obtain ⟨hl, hb, h⟩ := h; have f1 := AutoSeq1.idx_int; have f2 := AutoSeq1.sub_tuple_tuple; have f3 := AutoSeq1.sub_list_list; have f4 := AutoSeq1.sub_tuple_list; have f5 := AutoSeq1.sub_list_tuple;
    have hz' : (items ++ items2).size ≤ sizeLine + 1 := by rw [Array.size_append]; exact hs2
    wp_walk using (wpAny_updateSeq hl rfl (hz := hs1) (_hz' := hz')), wpAny_loadPart' hl, wpAny_loadPart' hb; exact ⟨_, rfl, h⟩
end
section
variable {prog : Program} {w : World} {A : Around} {E : Value → Shared → Prop} {s : Shared}
theorem ge_tupInts {l b : Addr} {items items2 : Array Value} {ns ms : List Int} {Q : Value → Shared → Prop} (hl : IsTup s.heap l items) (hb : IsTup s.heap b items2) (hi : IntsAre items.toList ns) (hj : IntsAre items2.toList ms)
    (hu : A.units < cLine) (h : Q (.bool (lexGe ns ms)) s) : wpAny (model prog w) A (compareOp .GtE (.ref l) (.ref b)) Q E s := by
  obtain ⟨⟨cls, dd, data, sl⟩, ho, hc, n, hd⟩ := id hl
  obtain ⟨⟨cls2, dd2, data2, sl2⟩, ho2, hc2, n2, hd2⟩ := id hb
  simp only at hc hd hc2 hd2
  subst hc hd hc2 hd2
  exact richCompare_meets_room (op := .GtE) ⟨_, ho, rfl⟩ ⟨_, ho2, rfl⟩ PySem.F.slot_tuple_ge PySem.F.entry_tuple_ge (PySem.F.args_tuple_ge_2 _ _) (tuple_ge_ints l b items items2 n n2 dd dd2 sl sl2 ns ms hi hj)
    ⟨ho, ho2, show Value.bool (lexGe ns ms) ≠ Value.notImplemented ∧ Q (.bool (lexGe ns ms)) s from ⟨(fun x => nomatch x), h⟩⟩ hu
end
end HT
namespace L2
open PySem PySem.Spec PyProof.Rows
section
variable {X : Cx}
def rGeT (K : PySem.W.Frag) : R2 := fun x y H Q => ∃ a b ns ms, x = .ref a ∧ y = .ref b ∧ SqT K H a (ns.map V.int) ∧ SqT K H b (ms.map V.int) ∧ Q (.bl (HT.lexGe ns ms)) H
theorem op_geT (hu : X.A.units < cLine) : OpR X (compareOp .GtE) (rGeT X.K) := by
  intro pins s σ H x y v u Q I rx ry h
  obtain ⟨a, b, ns, ms, rfl, rfl, ha, hb, q⟩ := h
  cases rx
  cases ry
  obtain ⟨its, r1, p1, _⟩ := I.tuple ha
  obtain ⟨its2, r2, p2, _⟩ := I.tuple hb
  have i1 : IntsAre its.toArray.toList ns := intsAre_of r1
  have i2 : IntsAre its2.toArray.toList ms := intsAre_of r2
  exact HT.ge_tupInts p1 p2 i1 i2 hu ⟨.bl (HT.lexGe ns ms), H, I, rfl, q⟩
/-- xs.extend(t), t a tuple -/
def rExtendT (K : PySem.W.Frag) : V → List V → Hp → VK → Prop := fun x vs H Q => ∃ l b xs zs, x = .ref l ∧ vs = [.ref b] ∧ H l = some (.lst xs) ∧ SqT K H b zs ∧ xs.length + zs.length ≤ sizeLine ∧ Q .non (upd H l (.lst (xs ++ zs)))
theorem mt_extendT : MtM X "list.extend" (rExtendT X.K) := by
  intro pins s σ H x vs v us Q I rx rv h
  obtain ⟨l, b, xs, zs, rfl, rfl, hH, hB, hz, q⟩ := h
  cases rx
  obtain ⟨u, rfl, ru⟩ := rv.one
  cases ru
  obtain ⟨z, its, n, r, hl, e⟩ := I.lstM hH
  obtain ⟨its2, r2, p2, z2⟩ := I.tuple hB
  have hl2 := r2.length
  obtain ⟨⟨cls2, dd2, data2, sl2⟩, ho2, hc2, n2, hd2⟩ := id p2
  simp only at hc2 hd2
  subst hc2 hd2
  have hsz : its.toArray.size + its2.toArray.size ≤ sizeLine := by rw [List.size_toArray, List.size_toArray]; omega
  have hlong : ¬ (!its.toArray.isEmpty && Builtin.List.listTooLong (its.toArray.size + its2.toArray.size)) = true := by
    rw [notLongL hsz, Bool.and_false]
    exact Bool.false_ne_true
  refine call_meets F.slot_list_extend ⟨_, e, rfl⟩ F.entry_list_extend (F.args_list_extend_2 _ _)
    (HT.list_extend_tup l its.toArray n b its2.toArray n2 dd2 sl2 hlong (by rw [List.size_toArray]; omega) (by omega)) ⟨e, ho2, ?_⟩
  refine ⟨.non, _, I.lset (its' := its ++ its2) hH e (by simp) (r.append r2) ?_, rfl, q⟩
  rw [List.length_append]
  omega
/-! ### a bound method as a value -/
structure BMeth (K : PySem.W.Frag) (C : Addr) (m : Str) (g : Addr) : Prop where
  me : Meth K C m g
  gt : PySem.W.specialIn K (.ref g) "__get__" = some (some (.builtin "function.__get__"))
  tk : PySem.W.takesIn K (.ref g) = some false
  cp : PySem.W.copiedNames.contains m = false
def tBound (C g : Addr) (m : Str) (ta : TE) : TE := fun σ H Q => ta σ H fun x H1 => ∃ a dx fs, x = .ref a ∧ H1 a = some (.ins C dx fs) ∧ fs.lookup m = none ∧ ∀ q, H1 q = none → Q (.ref q) (upd H1 q (.met g a))
theorem pe_bound {e : Expr} {ta : TE} {C g : Addr} {m : Str} {pos : Pos} (he : PE X e ta) (c : Cls X.K C) (k : BMeth X.K C m g) (hb : attributeBase e m X.env (eval e X.env) = eval e X.env) : PE X (.Attribute e m pos) (tBound C g m ta) := by
  intro pins s σ H Q I h
  refine attr_of hb (thn (he pins s σ H _ I h) fun u s1 ⟨x, H1, I1, rx, a, dx, fs, ex, ea, l, q⟩ => ?_)
  subst ex
  obtain rfl : u = Value.ref a := rx
  obtain ⟨mA, O, r, _, _, _⟩ := ins_get I1.hok ea
  have hn : mA m = none := RelO.none_of (by rw [← l]; exact r m)
  obtain ⟨od, J, hl⟩ := O.look
  refine PySem.W.get_bind I1.kIn J (PySem.W.plainGet_of (c.get m)).1 (PySem.W.findObj_fn c.hd k.me.at_ k.gt k.tk k.cp (by rw [hl, hn])) (PySem.W.plainGet_of (c.get m)).2
    (wpAny_call (PySem.W.fn_get (s := { s1 with toks := s1.toks + 1 }) I1.kIn (beq_iff_eq.mp k.me.fn) (PySem.W.handed_on rfl ?_)))
  refine ⟨.ref s1.heap.objs.size, upd H1 s1.heap.objs.size (.met g a), ?_, rfl, q _ (I1.hok.fresh (Nat.le_refl _))⟩
  refine I1.laid (t' := s1.toks + 1) (o := .met g a) (fun b ob e => Heap.get?_push_of_some _ e) (Nat.le_refl _) ?_
  show _ = _
  exact Heap.get?_push_size _ rfl
end
end L2
set_option Elab.async false
set_option linter.all false
set_option maxRecDepth 100000
set_option maxHeartbeats 4000000
namespace L2
open PySem PySem.Spec PyProof.Rows
def SameH (H H' : Hp) : Prop := ∀ b o, H b = some o → H' b = some o
/-- (n, id) before (m, j) -/
def kLt (x y : Int × Int) : Bool := decide (x.1 < y.1) || (decide (x.1 = y.1) && decide (x.2 < y.2))
def tupV (k : Int × Int) : List V := [.int k.1, .int k.2]
def kItems (k : Int × Int) : List (Int ⊕ List Nat) := [Sum.inl k.1, Sum.inl k.2]
def sh0 : Nat → Bool := fun _ => false
theorem lex_kItems (x y : Int × Int) : lexLt itemOrd (kItems x) (kItems y) = kLt x y := by
  unfold kItems kLt
  rw [lex_cons, lex_cons]
  show (decide (x.1 < y.1) || (!decide (y.1 < x.1) && (decide (x.2 < y.2) || (!decide (y.2 < x.2) && false)))) = _
  rw [Bool.and_false, Bool.or_false]
  by_cases h1 : x.1 < y.1
  · rw [decide_eq_true h1, Bool.true_or, Bool.true_or]
  · rw [decide_eq_false h1, Bool.false_or, Bool.false_or]
    by_cases h2 : y.1 < x.1
    · rw [decide_eq_true h2, decide_eq_false (show ¬ x.1 = y.1 by omega)]
      rfl
    · rw [decide_eq_false h2, decide_eq_true (show x.1 = y.1 by omega)]
      rfl
theorem tup_items2 {k : Int × Int} {us : List Value} (r : Vals (tupV k) us) : tupItems sh0 0 us = some (kItems k) ∧ ∃ t, us[0]? = some (.int k.1 t) := by
  unfold tupV at r
  cases r with
  | cons r1 r =>
    cases r with
    | cons r2 r =>
      cases r
      obtain ⟨t1, rfl⟩ := r1
      obtain ⟨t2, rfl⟩ := r2
      exact ⟨rfl, t1, rfl⟩
/-- the key tuples ts of ks stand in H -/
def KeysAt (H : Hp) (ts : List Addr) (ks : List (Int × Int)) : Prop := ∀ (j : Nat) (t : Addr) (k : Int × Int), ts[j]? = some t → ks[j]? = some k → H t = some (.tup (tupV k))
section
variable {X : Cx} {pins : List (Addr × Obj)} {σ : St} {H : Hp} {s : Shared}
theorem vals_refs : ∀ {ts : List Addr} {us : List Value}, Vals (ts.map V.ref) us → us = ts.map Value.ref
  | [], us, r => by cases r; rfl
  | t :: ts, us, r => by
    cases r with
    | cons r1 r =>
      cases r1
      rw [vals_refs r]
      rfl
theorem keyC (I : Inv X pins σ H s) {t : Addr} {k : Int × Int} (h : H t = some (.tup (tupV k))) : G.tupKeyC s.heap sh0 (.ref t) = some (kItems k) ∧ ∃ tk, TupOf s.heap sh0 (.ref t) (.int k.1 tk) := by
  obtain ⟨z, its, r, o, ho, hc, n, hd⟩ := I.hok t _ h
  obtain ⟨e1, tk, e2⟩ := tup_items2 r
  constructor
  · unfold G.tupKeyC
    have q : G.isTupObj s.heap (.ref t) = true := by simp [G.isTupObj, ho, hc]
    rw [if_pos q]
    simp only [tupKey, ho, hd]
    exact e1
  · exact ⟨tk, t, o, its.toArray, n, rfl, ho, hc, hd, by simpa using e2, fun _ => ⟨_, _, rfl⟩, fun q => absurd q (by decide)⟩
theorem keysC (I : Inv X pins σ H s) : ∀ {ts : List Addr} {ks : List (Int × Int)}, ts.length = ks.length → KeysAt H ts ks → ∃ fs, TupsOf s.heap sh0 (ts.map Value.ref) fs
  | [], _, _, _ => ⟨[], .nil⟩
  | t :: ts, [], hl, _ => by simp at hl
  | t :: ts, k :: ks, hl, h => by
    obtain ⟨fs, q⟩ := keysC I (ts := ts) (ks := ks) (by simpa using hl) fun j t' k' h1 h2 => h (j + 1) t' k' h1 h2
    obtain ⟨_, tk, q1⟩ := keyC I (h 0 t k rfl rfl)
    exact ⟨_, .cons q1 q⟩
/-- what comes out of a sort by keys -/
def SOut (ks : List (Int × Int)) (rows out : List V) : Prop := ∃ ps : List ((Int × Int) × V), ps.Perm (ks.zip rows) ∧ out = ps.map (·.2) ∧ ps.Pairwise fun p q => kLt q.1 p.1 = false
/-- a keyed pair of values for a keyed pair -/
def PairR (h : Heap) (p : (Int × Int) × V) (q : Keyed) : Prop := G.tupKeyC h sh0 q.1 = some (kItems p.1) ∧ RelV p.2 q.2
theorem paired_perm {α β : Type} {R : α → β → Prop} : ∀ {bs bs' : List β}, bs'.Perm bs → ∀ {as : List α}, Paired R as bs → ∃ as', as'.Perm as ∧ Paired R as' bs' := by
  intro bs bs' hp
  induction hp with
  | nil =>
    intro as r
    cases r
    exact ⟨[], .refl _, .nil⟩
  | cons x _ ih =>
    intro as r
    cases r with
    | cons r1 r =>
      obtain ⟨as', p, q⟩ := ih r
      exact ⟨_, p.cons _, .cons r1 q⟩
  | swap x y l =>
    intro as r
    cases r with
    | cons r1 r =>
      cases r with
      | cons r2 r => exact ⟨_, .swap _ _ _, .cons r2 (.cons r1 r)⟩
  | trans _ _ ih1 ih2 =>
    intro as r
    obtain ⟨as1, p1, q1⟩ := ih2 r
    obtain ⟨as2, p2, q2⟩ := ih1 q1
    exact ⟨as2, p2.trans p1, q2⟩
theorem paired_get' {α β : Type} {R : α → β → Prop} : ∀ {as : List α} {bs : List β} {i : Nat} {a : α}, Paired R as bs → as[i]? = some a → ∃ b, bs[i]? = some b ∧ R a b
  | _, _, _, _, .nil, e => by simp at e
  | _, _, 0, _, .cons r _, e => by simp at e; subst e; exact ⟨_, rfl, r⟩
  | _, _, i + 1, x, .cons _ t, e => by
    obtain ⟨u, h1, h2⟩ := paired_get' (i := i) (a := x) t (by simpa using e)
    exact ⟨u, by simpa using h1, h2⟩
theorem pairs_of' {h : Heap} : ∀ {ts : List Addr} {ks : List (Int × Int)} {rows : List V} {us : List Value}, ts.length = ks.length → rows.length = ks.length → (∀ (j : Nat) (t : Addr) (k : Int × Int), ts[j]? = some t → ks[j]? = some k → G.tupKeyC h sh0 (.ref t) = some (kItems k)) → Vals rows us →
    Paired (PairR h) (ks.zip rows) ((ts.map Value.ref).zip us)
  | [], [], [], _, _, _, _, r => by cases r; exact .nil
  | t :: ts, k :: ks, row :: rows, _, h1, h2, h3, r => by
    cases r with
    | cons r1 r =>
      exact .cons ⟨h3 0 t k rfl rfl, r1⟩ (pairs_of' (by simpa using h1) (by simpa using h2) (fun j t' k' a b => h3 (j + 1) t' k' a b) r)
  | [], k :: ks, _, _, h1, _, _, _ => by simp at h1
  | t :: ts, [], _, _, h1, _, _, _ => by simp at h1
  | _, [], row :: rows, _, _, h2, _, _ => by simp at h2
  | _, k :: ks, [], _, _, h2, _, _ => by simp at h2
theorem vals_snd {h : Heap} : ∀ {ps : List ((Int × Int) × V)} {qs : List Keyed}, Paired (PairR h) ps qs → Vals (ps.map (·.2)) (qs.map (·.2))
  | _, _, .nil => .nil
  | _, _, .cons r t => .cons r.2 (vals_snd t)
theorem sout_of {h : Heap} {ts : List Addr} {ks : List (Int × Int)} {rows : List V} {us : List Value} (h1 : ts.length = ks.length) (h2 : rows.length = ks.length) (h3 : ∀ (j : Nat) (t : Addr) (k : Int × Int), ts[j]? = some t → ks[j]? = some k → G.tupKeyC h sh0 (.ref t) = some (kItems k)) (r : Vals rows us)
    {arr : Array Keyed} (hp : arr.Perm ((ts.map Value.ref).toArray.zip us.toArray)) (hs : SortedToK (G.tupKindC h sh0) arr arr.size) : ∃ out, Vals out (arr.map (·.2)).toList ∧ SOut ks rows out := by
  have e0 : arr.toList.Perm ((ts.map Value.ref).zip us) := by
    have q := Array.perm_iff_toList_perm.mp hp
    rw [ksk_zip] at q
    simpa using q
  obtain ⟨ps, p1, p2⟩ := paired_perm e0 (pairs_of' h1 h2 h3 r)
  refine ⟨ps.map (·.2), ?_, ps, p1, rfl, ?_⟩
  · rw [Array.toList_map]
    exact vals_snd p2
  · rw [List.pairwise_iff_getElem]
    intro i j hi hj hij
    obtain ⟨bi, g1, g2, _⟩ := paired_get' p2 (List.getElem?_eq_getElem hi)
    obtain ⟨bj, g3, g4, _⟩ := paired_get' p2 (List.getElem?_eq_getElem hj)
    have k1 : KK (G.tupKindC h sh0) arr i = kItems ps[i].1 := by
      unfold KK
      rw [← Array.getElem?_toList, g1]
      show (G.tupKeyC h sh0 bi.1).getD [] = _
      rw [g2]
      rfl
    have k2 : KK (G.tupKindC h sh0) arr j = kItems ps[j].1 := by
      unfold KK
      rw [← Array.getElem?_toList, g3]
      show (G.tupKeyC h sh0 bj.1).getD [] = _
      rw [g4]
      rfl
    have hj' : j < arr.size := by
      have := (List.getElem?_eq_some_iff.mp g3).1
      simpa using this
    have q := hs i j (Nat.le_of_lt hij) hj'
    rw [k1, k2] at q
    have q' : lexLt itemOrd (kItems ps[j].1) (kItems ps[i].1) = false := q
    rw [lex_kItems] at q'
    exact q'
end
end L2
set_option Elab.async false
set_option linter.all false
set_option maxRecDepth 100000
set_option maxHeartbeats 4000000
namespace L2
open PySem PySem.Spec PyProof.Rows
section
variable {X : Cx} {pins : List (Addr × Obj)} {σ : St} {H : Hp} {s : Shared}
theorem vals_at : ∀ {xs : List V} {us : List Value} {i : Nat} {u : Value}, Vals xs us → us[i]? = some u → ∃ x, xs[i]? = some x ∧ RelV x u
  | _, _, _, _, .nil, e => by simp at e
  | _, _, 0, _, .cons r _, e => by simp at e; subst e; exact ⟨_, rfl, r⟩
  | _, _, i + 1, x, .cons _ t, e => by
    obtain ⟨u, h1, h2⟩ := vals_at (i := i) (u := x) t (by simpa using e)
    exact ⟨u, by simpa using h1, h2⟩
/-- a bound method runs within a builtin's builtin -/
theorem run_met {k : Nat} {f xa q : Addr} {fd : FuncData} {ps : List Str} {sp : Sp} {v : V} {u : Value} {Q : VK} {E : Value → Shared → Prop} (F : FnOk X.prog X.w X.K X.mg X.base CX0 k f fd ps sp) (hr : Room (k + 2) X.A) (hb : Binds X.K fd ps [])
    (I : Inv X pins σ H s) (hq : H q = some (.met f xa)) (r : RelV v u) (h : sp [.ref xa, v] H Q E0) : wpAny (model X.prog X.w) X.A.in1.in1 (call (.ref q) [u]) (EP X pins σ Q) E s := by
  have r2 : Vals [V.ref xa, v] [Value.ref xa, u] := .cons rfl (.cons r .nil)
  have hl : ([Value.ref xa, u] ++ []).length = ps.length := by rw [List.append_nil, ← r2.length]; exact F.len _ _ _ _ h
  have ho : s.heap.get? q = some (PySem.W.methodObj (.ref f) (.ref xa)) := I.hok q _ hq
  have hb2 := hb s [Value.ref xa, u] I.kIn hl
  rw [List.append_nil] at hb2
  refine wpAny_call (PySem.W.method_call ho (codeAny_mono (F.run X.A.in1.in1 X.stack s H ⟨[Value.ref xa, u], []⟩ [Value.ref xa, u] [V.ref xa, v] Q E0 hr.in1.in1 I.env0.in1.in1 hb2 r2 h) fun r s' hq => ?_))
  cases r with
  | error e => exact False.elim hq
  | ok fl =>
    cases fl with
    | ret u => exact I.after hq
    | next => exact False.elim hq
    | brk => exact False.elim hq
    | cont => exact False.elim hq
/-- what a key's call is to do -/
def KeyCall (sp : Sp) (xa : Addr) (H : Hp) (rows : List V) (ks : List (Int × Int)) : Prop :=
  ∀ (H3 : Hp) (j : Nat) (row : V) (k : Int × Int) (Q' : VK), Same H H3 → rows[j]? = some row → ks[j]? = some k → (∀ (H4 : Hp) (t : Addr), Same H3 H4 → H4 t = some (.tup (tupV k)) → Q' (.ref t) H4) → sp [.ref xa, row] H3 Q' E0
/-- the list's exact object -/
abbrev exactL (a : Addr) (e1 : Nat) : HO := .ext fun h => h.get? a = some (seqObj "list" #[] e1)
theorem tail_ok {H1 Hc : Hp} {a kS : Addr} {e1 : Nat} {kxs : List V} {P : PySem.Fin → Shared → Prop} {E : Value → Shared → Prop} {A : Around} {st : SortSt} {out : List V} (hka : H1 kS = none) (ha : H1 a = some (exactL a e1))
    (I : Inv X pins σ Hc s) (sm : Same H1 Hc) (hk : Hc kS = some (.lst kxs)) (hfl : failedOf st = none) (hv : Vals out ((arrOf st).map (·.2)).toList) (hz : out.length ≤ sizeLine)
    (h : ∀ (s' : Shared) (H5 : Hp), Inv X pins σ H5 s' → (∀ b o, H1 b = some o → b ≠ a → H5 b = some o) → H5 a = some (.lst out) → P (.done (.ret .none)) s') :
    wpAny (model X.prog X.w) A (ksk_tail a false e1 (.ref kS) st) P E s := by
  obtain ⟨z, its, n, r, hl', e⟩ := I.lstM hk
  have nka : a ≠ kS := ne_of_none ha hka
  have hsz : ((arrOf st).map (·.2)).size = out.length := by rw [hv.length, Array.length_toList]
  have I1 := I.lset (t' := s.toks) (f := fun _ => #[]) (its' := []) (ys := []) hk e rfl .nil (Nat.zero_le _)
  have ha1 : (upd Hc kS (.lst [])) a = some (exactL a e1) := by rw [upd_ne nka]; exact sm _ _ ha
  have hx : (s.heap.update kS (Obj.mapSeq fun _ => (#[] : Array Value))).get? a = some (seqObj "list" #[] e1) := (I1.hok a _ ha1).1
  unfold ksk_tail
  try dsimp only
  refine wpAny_bind (listUpdate_at e rfl ?_ (by rw [List.size_toArray]; omega) (Nat.zero_le _))
  refine wpAny_bind (wpAny_letGo ?_)
  refine wpAny_bind (seqEpoch_at hx rfl ?_)
  refine wpAny_bind (listUpdate_at hx rfl ?_ (Nat.zero_le _) (by rw [if_neg Bool.false_ne_true, hsz]; exact Nat.le_succ_of_le hz))
  rw [hfl]
  simp only [bne_self_eq_false, Bool.false_eq_true, if_false]
  refine wpAny_pure (h _ (upd (upd Hc kS (.lst [])) a (.lst out)) ?_ ?_ upd_same)
  · obtain ⟨c2, hc2⟩ : ∃ c2, ((s.heap.update kS (Obj.mapSeq fun _ => (#[] : Array Value))).update a (Obj.mapSeq fun _ => (arrOf st).map (·.2))).get? a = some (seqObj "list" ((arrOf st).map (·.2)) c2) := ⟨_, get?_update_seq hx fun _ => (arrOf st).map (·.2)⟩
    refine I1.write (x := a) (e := a) (by rw [ha1]; exact trivial) (.inl rfl) (fun b' u hb hu => (Heap.get?_update_other _ _ (Ne.symm hb)).trans hu) ⟨_, hc2⟩ ?_
    refine ⟨hz, ((arrOf st).map (·.2)).toList, c2, hv, ?_⟩
    rw [hc2, Array.toArray_toList]
  · intro b o hb hba
    rw [upd_ne hba, upd_ne (ne_of_none hb hka)]
    exact sm _ _ hb
theorem end_ok {H1 Hc : Hp} {a kS : Addr} {e1 : Nat} {ts : List Addr} {ks : List (Int × Int)} {rows : List V} {us : List Value} {P : PySem.Fin → Shared → Prop} {E : Value → Shared → Prop} {A : Around} (hka : H1 kS = none) (ha : H1 a = some (exactL a e1))
    (I : Inv X pins σ Hc s) (sm : Same H1 Hc) (hk : Hc kS = some (.lst (ts.map V.ref))) (htl : ts.length = ks.length) (ka : KeysAt Hc ts ks) (rv : Vals rows us) (hlen : rows.length = ks.length) (hz : rows.length ≤ sizeLine)
    (h : ∀ (s' : Shared) (H5 : Hp) (out : List V), Inv X pins σ H5 s' → (∀ b o, H1 b = some o → b ≠ a → H5 b = some o) → H5 a = some (.lst out) → SOut ks rows out → P (.done (.ret .none)) s') :
    wpAny (model X.prog X.w) A (ksk_end a false us.toArray e1 (.ref kS) (ts.map Value.ref).toArray) P E s := by
  have hul := rv.length
  have kc : ∀ (j : Nat) (t : Addr) (k : Int × Int), ts[j]? = some t → ks[j]? = some k → G.tupKeyC s.heap sh0 (.ref t) = some (kItems k) := fun j t k h1 h2 => (keyC I (ka j t k h1 h2)).1
  have hzs : ((ts.map Value.ref).toArray.zip us.toArray).size = us.length := by
    rw [Array.size_zip, List.size_toArray, List.size_toArray, List.length_map]
    omega
  have fin : ∀ st : SortSt, (arrOf st).Perm ((ts.map Value.ref).toArray.zip us.toArray) → failedOf st = none → SortedToK (G.tupKindC s.heap sh0) (arrOf st) (arrOf st).size → wpAny (model X.prog X.w) A (ksk_tail a false e1 (.ref kS) st) P E s := fun st hp hf hs => by
    obtain ⟨out, o1, o2⟩ := sout_of htl hlen kc rv hp hs
    have hol : out.length ≤ sizeLine := by
      rw [o1.length, Array.length_toList, Array.size_map, hp.size_eq, hzs]
      omega
    exact tail_ok hka ha I sm hk hf o1 hol fun s' H5 i1 i2 i3 => h s' H5 out i1 i2 i3 o2
  unfold ksk_end
  simp only [Bool.false_eq_true, if_false]
  by_cases h2 : us.toArray.size < 2
  · rw [if_pos h2, if_pos h2]
    refine wpAny_bind (wpAny_pure ?_)
    rw [StateT.run_pure]
    refine wpAny_bind (wpAny_pure ?_)
    try dsimp only
    refine fin (SortSt.mk' general' ((ts.map Value.ref).toArray.zip us.toArray) #[] 7 none) (Array.Perm.refl _) rfl ?_
    intro i j hij hj
    have hj2 : j < ((ts.map Value.ref).toArray.zip us.toArray).size := hj
    rw [hzs] at hj2
    rw [List.size_toArray] at h2
    have : i = j := by omega
    subst this
    exact KeyOrd.kle_refl _
  · rw [if_neg h2, if_neg h2]
    rw [List.size_toArray] at h2
    obtain ⟨fs, tf⟩ := keysC I htl ka
    have hfl : fs.length = ts.length := by rw [G.TupsOf.length tf, List.length_map]
    refine wpAny_bind (tup_kind (shape := sh0) (fs := fs) (by omega) tf ?_)
    try dsimp only
    have h0 : KeysOf (G.tupKindC s.heap sh0) ((ts.map Value.ref).toArray.zip us.toArray) := by
      intro p hp
      rw [ksk_zip] at hp
      obtain ⟨x, y⟩ := p
      have hm := (List.of_mem_zip hp).1
      rw [List.toList_toArray] at hm
      obtain ⟨t, ht, rfl⟩ := List.mem_map.mp hm
      obtain ⟨j, hj⟩ := List.getElem?_of_mem ht
      have hjl := (List.getElem?_eq_some_iff.mp hj).1
      exact ⟨_, kc j t _ hj (List.getElem?_eq_getElem (show j < ks.length by omega))⟩
    refine wpAny_bind (wpAny_mono (G.wpS_sortRunsSt (κ := G.tupKindC s.heap sh0) (kd := tuples' true) (a₀ := (ts.map Value.ref).toArray.zip us.toArray) (st := SortSt.mk' (tuples' true) ((ts.map Value.ref).toArray.zip us.toArray) #[] 7 none)
      (Q := fun _ st' => (arrOf st').Perm ((ts.map Value.ref).toArray.zip us.toArray) ∧ failedOf st' = none ∧ SortedToK (G.tupKindC s.heap sh0) (arrOf st') ((ts.map Value.ref).toArray.zip us.toArray).size)
      (G.tupC_ltAt true (G.KeepsTups.refl _)) h0 ⟨Array.Perm.refl _, rfl, rfl⟩ rfl (Stable.refl _) (by rw [hzs]; omega) fun st' a1 a2 a3 a4 => ⟨a1, a2, a3⟩) ?_ fun _ _ e => e)
    rintro ⟨⟨⟩, st'⟩ s' ⟨rfl, hp, hf, hs⟩
    try dsimp only
    exact fin st' hp hf (by rw [hp.size_eq]; exact hs)
theorem rest_ok {H1 : Hp} {a kS q xa f : Addr} {k : Nat} {fd : FuncData} {ps : List Str} {sp : Sp} {e1 : Nat} {ks : List (Int × Int)} {rows : List V} {us : List Value} {P : PySem.Fin → Shared → Prop} {E : Value → Shared → Prop}
    (F : FnOk X.prog X.w X.K X.mg X.base CX0 k f fd ps sp) (hr : Room (k + 2) X.A) (hb : Binds X.K fd ps []) (hka : H1 kS = none) (ha : H1 a = some (exactL a e1)) (hq : H1 q = some (.met f xa))
    (I : Inv X pins σ (upd H1 kS (.lst [])) s) (rv : Vals rows us) (hlen : rows.length = ks.length) (hz : rows.length ≤ sizeLine) (kc : KeyCall sp xa H1 rows ks)
    (h : ∀ (s' : Shared) (H5 : Hp) (out : List V), Inv X pins σ H5 s' → (∀ b o, H1 b = some o → b ≠ a → H5 b = some o) → H5 a = some (.lst out) → SOut ks rows out → P (.done (.ret .none)) s') :
    wpAny (model X.prog X.w) X.A.in1.in1 (ksk_rest a (.ref q) false us.toArray e1 (.ref kS)) P E s := by
  have hul := rv.length
  unfold ksk_rest
  refine wpAny_bind (wpAny_rule ?_)
  first
    | rw [List.forIn_toArray]
    | (rw [← Array.forIn_toList]; simp only [List.toList_toArray])
    | rw [← Array.forIn_toList]
  refine wpAny_bind (ksk_fold (fun i s' => ∃ (Hc : Hp) (ts : List Addr), Inv X pins σ Hc s' ∧ Same H1 Hc ∧ Hc kS = some (.lst (ts.map V.ref)) ∧ ts.length = i ∧ KeysAt Hc ts ks) us 0 s
    ⟨_, [], I, fun b o e => by rw [upd_ne (ne_of_none e hka)]; exact e, upd_same, rfl, fun j t k h => by simp at h⟩ ?step ?done)
  case step =>
    rintro j x s' hx ⟨Hc, ts, I', sm, hk, hl, ka⟩
    simp only [Nat.zero_add] at hl ⊢
    obtain ⟨row, hrow, rr⟩ := vals_at rv hx
    have hj := (List.getElem?_eq_some_iff.mp hrow).1
    obtain ⟨kk, hkj⟩ : ∃ kk, ks[j]? = some kk := ⟨_, List.getElem?_eq_getElem (by omega)⟩
    refine wpAny_bind (wpAny_attempt (wpAny_mono (run_met (E := fun _ _ => False) (Q := fun v H4 => ∃ t, v = .ref t ∧ Same Hc H4 ∧ H4 t = some (.tup (tupV kk))) F hr hb I' (sm q _ hq) rr
      (kc Hc j row kk _ sm hrow hkj fun H4 t s4 ht => ⟨t, rfl, s4, ht⟩)) (fun v s'' he => ?_) fun _ _ hF => hF.elim))
    obtain ⟨v', H4, I4, rv', t, rfl, sm4, ht⟩ := he
    cases rv'
    try dsimp only
    have hk4 := sm4 _ _ hk
    obtain ⟨z, its, n, r, hl', e⟩ := I4.lstM hk4
    have hits : its.length = j := by rw [← hl', List.length_map]; exact hl
    refine wpAny_bind (listUpdate_at e rfl ?_ (by rw [List.size_toArray]; omega) (Nat.le_trans (Nat.le_of_eq (Array.size_push ..)) (by rw [List.size_toArray]; omega)))
    refine wpAny_pure ⟨rfl, upd H4 kS (.lst ((ts ++ [t]).map V.ref)), ts ++ [t], ?_, ?_, upd_same, by rw [List.length_append, hl]; rfl, ?_⟩
    · refine I4.lset (its' := its ++ [Value.ref t]) hk4 e (by simp) ?_ ?_
      · rw [List.map_append]
        exact r.append (.cons rfl .nil)
      · rw [List.length_map, List.length_append, hl]
        show j + 1 ≤ sizeLine
        omega
    · intro b o hb
      rw [upd_ne (ne_of_none hb hka)]
      exact sm4 _ _ (sm _ _ hb)
    · intro i u k' h1 h2
      have nt : u ≠ kS := by
        intro q
        subst q
        by_cases hi : i < ts.length
        · rw [List.getElem?_append_left hi] at h1
          have := ka i _ k' h1 h2
          rw [hk] at this
          cases this
        · rw [List.getElem?_append_right (by omega)] at h1
          have e0 : i - ts.length = 0 := by
            have := (List.getElem?_eq_some_iff.mp h1).1
            simp at this
            omega
          rw [e0] at h1
          have h1 : t = u := Option.some.inj h1
          rw [h1, hk4] at ht
          cases ht
      rw [upd_ne nt]
      by_cases hi : i < ts.length
      · rw [List.getElem?_append_left hi] at h1
        exact sm4 _ _ (ka i _ k' h1 h2)
      · rw [List.getElem?_append_right (by omega)] at h1
        have e0 : i - ts.length = 0 := by
          have := (List.getElem?_eq_some_iff.mp h1).1
          simp at this
          omega
        rw [e0] at h1
        have h1 : t = u := Option.some.inj h1
        have ei : i = j := by omega
        subst ei
        rw [hkj] at h2
        cases h2
        rw [← h1]
        exact ht
  case done =>
    rintro s' ⟨Hc, ts, I', sm, hk, hl, ka⟩
    obtain ⟨z, its, n, r, hl', e⟩ := I'.lstM hk
    have ei := vals_refs r
    subst ei
    try dsimp only
    refine wpAny_bind (listItems_at e rfl ?_)
    exact end_ok hka ha I' sm hk (by omega) ka rv hlen hz h
theorem sorted_met {l q xa f : Addr} {k : Nat} {fd : FuncData} {ps : List Str} {sp : Sp} {ks : List (Int × Int)} {rows : List V} {Q : Value → Shared → Prop} {E : Value → Shared → Prop}
    (F : FnOk X.prog X.w X.K X.mg X.base CX0 k f fd ps sp) (hr : Room (k + 2) X.A) (hb : Binds X.K fd ps []) (I : Inv X pins σ H s) (hl : SqL X.K H l rows) (hq : H q = some (.met f xa)) (hlen : rows.length = ks.length) (kc : KeyCall sp xa H rows ks)
    (h : ∀ (s' : Shared) (H5 : Hp) (p : Addr) (out : List V), Inv X pins σ H5 s' → Same H H5 → H p = none → H5 p = some (.lst out) → SOut ks rows out → Q (.ref p) s') :
    wpAny (model X.prog X.w) X.A (call (.builtin "sorted") [.ref l] [(Str.ofString "key", .ref q)]) Q E s := by
  obtain ⟨vs, rv, pl, hz⟩ := I.list hl
  have hvl := rv.length
  have hZ2 : vs.length ≤ 16777216 := by rw [← sizeLine_eq]; omega
  refine call_function_entry_kw kind_sorted plain_sorted entry_sorted (ksk_s1 _ _) ?_
  unfold Builtin.«sorted»
  refine wpAny_bind (m := checkCount "sorted" 1 1 _) (wpAny_pure ?_)
  refine wpAny_bind (collect_list pl.isList ?_ (by rw [sizeLine_eq]; omega))
  refine wpAny_bind (wpAny_newList ?_ (by rw [sizeLine_eq]; omega))
  have hsz : ((s.heap.push (seqObj "list" #[] 0)).update s.heap.objs.size (Obj.mapSeq (· ++ vs.toArray))).objs.size = s.heap.objs.size + 1 := by
    rw [Heap.size_update, size_push']
  have hoL : (((s.heap.push (seqObj "list" #[] 0)).update s.heap.objs.size (Obj.mapSeq (· ++ vs.toArray))).push (seqObj "list" vs.toArray 0)).get? (s.heap.objs.size + 1) = some (seqObj "list" vs.toArray 0) := by
    rw [← hsz]; exact Heap.get?_push_size _ rfl
  have keep : ∀ b o, s.heap.get? b = some o → (((s.heap.push (seqObj "list" #[] 0)).update s.heap.objs.size (Obj.mapSeq (· ++ vs.toArray))).push (seqObj "list" vs.toArray 0)).get? b = some o := fun b o q => by
    have hlt : b < s.heap.objs.size := Heap.lt_size q
    rw [Heap.get?_push_ne _ _ _ (by rw [hsz]; exact Nat.ne_of_lt (Nat.lt_succ_of_lt hlt)), Heap.get?_update_ne _ _ _ _ (Nat.ne_of_lt hlt), Heap.get?_push_ne _ _ _ (Nat.ne_of_lt hlt)]
    exact q
  show wpAny _ _ _ _ _ { s with heap := ((s.heap.push (seqObj "list" #[] 0)).update s.heap.objs.size (Obj.mapSeq (· ++ vs.toArray))).push (seqObj "list" vs.toArray 0) }
  rw [hsz]
  generalize ((s.heap.push (seqObj "list" #[] 0)).update s.heap.objs.size (Obj.mapSeq (· ++ vs.toArray))).push (seqObj "list" vs.toArray 0) = h2 at hoL keep
  refine wpAny_bind (wpAny_holding (wpAny_call_entry_kw slot_list_sort ⟨_, hoL, rfl⟩ entry_list_sort ?body (ksk_l1 _ _)))
  case body =>
    show wpAny (model X.prog X.w) X.A.in1.in1 (Builtin.«list.sort» ⟨[.ref (s.heap.objs.size + 1)], [(Str.ofString "key", .ref q)]⟩) _ _ _
    rw [ksk_t1]
    obtain ⟨e1, ho1⟩ : ∃ e1, (h2.update (s.heap.objs.size + 1) (Obj.mapSeq fun _ => (#[] : Array Value))).get? (s.heap.objs.size + 1) = some (seqObj "list" #[] e1) := ⟨_, get?_update_seq hoL fun _ => #[]⟩
    have keep3 : ∀ b o, s.heap.get? b = some o → (h2.update (s.heap.objs.size + 1) (Obj.mapSeq fun _ => (#[] : Array Value))).get? b = some o := fun b o q => by
      rw [Heap.get?_update_ne _ _ _ _ (Nat.ne_of_lt (Nat.lt_succ_of_lt (Heap.lt_size q)))]
      exact keep b o q
    unfold ksk_tree
    refine wpAny_bind (listItems_at hoL rfl ?_)
    refine wpAny_bind (listUpdate_at hoL rfl ?_ (by rw [List.size_toArray, sizeLine_eq]; omega) (Nat.zero_le _))
    refine wpAny_bind (seqEpoch_at ho1 rfl ?_)
    refine wpAny_bind (wpAny_newTuple ?_ (by show vs.length ≤ _; rw [sizeLine_eq]; omega))
    refine wpAny_bind (wpAny_newList ?_ (Nat.zero_le _))
    refine wpAny_holding ?_
    generalize h2.update (s.heap.objs.size + 1) (Obj.mapSeq fun _ => (#[] : Array Value)) = h3 at ho1 keep3
    have keep4 : ∀ b o, s.heap.get? b = some o → (h3.push (seqObj "tuple" vs.toArray 0)).get? b = some o := fun b o q => Heap.get?_push_of_some _ (keep3 b o q)
    have ho4 : (h3.push (seqObj "tuple" vs.toArray 0)).get? (s.heap.objs.size + 1) = some (seqObj "list" #[] e1) := Heap.get?_push_of_some _ ho1
    have fra : H (s.heap.objs.size + 1) = none := I.hok.fresh (Nat.le_succ _)
    have I4 := I.laid (a := s.heap.objs.size + 1) (o := exactL (s.heap.objs.size + 1) e1) (h' := h3.push (seqObj "tuple" vs.toArray 0)) (t' := s.toks) keep4 (Nat.le_succ _)
      ⟨ho4, ⟨_, ho4⟩, fun h1 h2 z k => k _ z⟩
    have I5 := I4.lnew (its := []) (ys := []) (t' := s.toks) .nil (Nat.zero_le _)
    have sm1 : Same H (upd H (s.heap.objs.size + 1) (exactL (s.heap.objs.size + 1) e1)) := fun b o e => by rw [upd_ne (ne_of_none e fra)]; exact e
    refine rest_ok F hr hb (H1 := upd H (s.heap.objs.size + 1) (exactL (s.heap.objs.size + 1) e1)) (I4.hok.fresh (Nat.le_refl _)) upd_same (sm1 _ _ hq) I5 rv hlen hz (fun H3 j row k Q' sm => kc H3 j row k Q' (sm1.trans sm)) fun s' H5 out i1 i2 i3 i4 => ⟨_, rfl, ?_⟩
    exact wpAny_pure ⟨_, rfl, h s' H5 _ out i1 (fun b o e => i2 b o (sm1 b o e) (ne_of_none e fra)) fra i3 i4⟩
/-- sorted(e, key=k), k a bound method -/
def rSortK (K : PySem.W.Frag) (sp : Sp) (f : Addr) (x y : V) (H2 : Hp) (Q : VK) : Prop := ∃ (l q xa : Addr) (ks : List (Int × Int)) (rows : List V), x = .ref l ∧ y = .ref q ∧ H2 q = some (.met f xa) ∧ SqL K H2 l rows ∧ rows.length = ks.length ∧ KeyCall sp xa H2 rows ks ∧
  ∀ (H5 : Hp) (p : Addr) (out : List V), Same H2 H5 → H2 p = none → H5 p = some (.lst out) → SOut ks rows out → Q (.ref p) H5
def tSortK (K : PySem.W.Frag) (sp : Sp) (f : Addr) (ta tk : TE) : TE := fun σ H Q => ta σ H fun x H1 => tk σ H1 fun y H2 => rSortK K sp f x y H2 Q
theorem pe_sortK {f : Addr} {k : Nat} {fd : FuncData} {ps : List Str} {sp : Sp} {e ke : Expr} {p pos kp : Pos} {ta tk : TE} (F : FnOk X.prog X.w X.K X.mg X.base CX0 k f fd ps sp) (hr : Room (k + 2) X.A) (hb : Binds X.K fd ps [])
    (hg : Gl X "sorted") (hm : X.mg "sorted" = none) (ha : PE X e ta) (hk : PE X ke tk)
    (he : starEach [e] X.env = [(false, eval e X.env)] := by rfl) : PE X (.Call (.Name "sorted" p) [e] [⟨some "key", ke, kp⟩] pos) (tSortK X.K sp f ta tk) := by
  intro pins s σ H Q I h
  refine wpAny_Call_Name_kw (ld_blt I hg hm (show bootBuiltins "sorted" = some (.builtin "sorted") from rfl) ?_)
  have hA := (pa_cons ha pa_nil he) pos pins s σ H (fun vs H1 => match vs with | [x] => tk σ H1 fun y H2 => rSortK X.K sp f x y H2 Q | _ => False) I h
  refine callWith_kw (thn hA fun us s1 ⟨vs, H1, I1, r1, q1⟩ => ?_) (by rw [he]; rfl) (by rw [he]; rfl)
  match vs, r1, q1 with
  | [x], r1, q1 =>
    obtain ⟨u, rfl, ru⟩ := r1.one
    have hK := (pk_cons (nm := some "key") (kpos := kp) hk pk_nil) pos pins s1 σ H1 (fun vs H2 => match vs with | [y] => rSortK X.K sp f x y H2 Q | _ => False) I1 q1
    refine thn hK fun ws s2 ⟨zs, H2, I2, r2, q2⟩ => ?_
    match zs, r2, q2 with
    | [y], r2, q2 =>
      obtain ⟨w, rfl, rw'⟩ := r2.one
      obtain ⟨l, q, xa, ks, rows, rfl, rfl, hq, hl, hlen, kc, k⟩ := q2
      cases ru
      cases rw'
      exact sorted_met F hr hb I2 hl hq hlen kc fun s' H5 p' out i1 i2 i3 i4 i5 => ⟨.ref p', H5, i1, rfl, k H5 p' out i2 i3 i4 i5⟩
end
end L2
namespace My
open PyFlat (calls call rows row told played)
abbrev shape := PyKp204.shape
abbrev nstep := Kp204Neutral.step
theorem whole_id (c : List (List Int)) : PyKp204.whole c = c := by
  unfold PyKp204.whole
  split <;> rfl
theorem map_whole (cs : List (List (List Int))) : cs.map PyKp204.whole = cs := by
  induction cs with
  | nil => rfl
  | cons c l ih => rw [List.map_cons, whole_id, ih]
/-- how many numbers a call has behind its own -/
def arity (p : Int) : Option Nat := (shape p).map (·.1)
theorem shape_rows {p : Int} {n k : Nat} (h : shape p = some (n, k)) : k = 0 := by
  simp only [shape, PyKp204.shape] at h
  repeat' split at h
  all_goals first | (injection h with h; injection h with _ h2; exact h2.symm) | cases h
theorem call_eq {p : Int} {r : List Int} {n : Nat} (h : shape p = some (n, 0)) (hl : n ≤ r.length) :
    call shape (p :: r) = some ([p :: r.take n], r.drop n) := by
  show (match shape p with
    | none => none
    | some (n, k) => if r.length < n then none else match rows k (r.drop n) with
      | none => none
      | some (xs, t) => some ((p :: r.take n) :: xs, t)) = _
  rw [h]
  show (if r.length < n then none else some ([p :: r.take n], r.drop n)) = _
  rw [if_neg (by omega)]
theorem call_none {p : Int} {r : List Int} {n : Nat} (h : shape p = some (n, 0)) (hl : ¬ n ≤ r.length) :
    call shape (p :: r) = none := by
  show (match shape p with
    | none => none
    | some (n, k) => if r.length < n then none else match rows k (r.drop n) with
      | none => none
      | some (xs, t) => some ((p :: r.take n) :: xs, t)) = _
  rw [h]
  show (if r.length < n then none else some ([p :: r.take n], r.drop n)) = _
  rw [if_pos (by omega)]
theorem call_noshape {p : Int} {r : List Int} (h : shape p = none) : call shape (p :: r) = none := by
  show (match shape p with
    | none => none
    | some (n, k) => if r.length < n then none else match rows k (r.drop n) with
      | none => none
      | some (xs, t) => some ((p :: r.take n) :: xs, t)) = _
  rw [h]
/-- the call at a list's head, taken apart -/
theorem calls_cons {f : Nat} {p : Int} {r : List Int} {cs : List (List (List Int))} (h : calls shape (f + 1) (p :: r) = some cs) :
    ∃ n cs', shape p = some (n, 0) ∧ n ≤ r.length ∧ calls shape f (r.drop n) = some cs' ∧ cs = [p :: r.take n] :: cs' := by
  have h' : (match call shape (p :: r) with
    | none => none
    | some (c, t) => match calls shape f t with
      | none => none
      | some cs => some (c :: cs)) = some cs := h
  cases hs : shape p with
  | none => rw [call_noshape hs] at h'; cases h'
  | some nk =>
    obtain ⟨n, k⟩ := nk
    have hk := shape_rows hs
    subst hk
    by_cases hl : n ≤ r.length
    · rw [call_eq hs hl] at h'
      have h2 : (match calls shape f (r.drop n) with
        | none => none
        | some cs => some ([p :: r.take n] :: cs)) = some cs := h'
      cases hc : calls shape f (r.drop n) with
      | none => rw [hc] at h2; cases h2
      | some cs' =>
        rw [hc] at h2
        exact ⟨n, cs', rfl, hl, hc, (Option.some.inj h2).symm⟩
    · rw [call_none hs hl] at h'; cases h'
theorem calls_nil {f : Nat} : calls shape f [] = some [] := by cases f <;> rfl
/-- a list of calls cs stands in l -/
inductive Stand : List Int → List (List (List Int)) → Prop
  | nil : Stand [] []
  | cons {p : Int} {n : Nat} {args rest : List Int} {cs : List (List (List Int))} (hs : shape p = some (n, 0)) (ha : args.length = n) (t : Stand rest cs) : Stand (p :: (args ++ rest)) ([p :: args] :: cs)
theorem stand_of : ∀ {f : Nat} {l : List Int} {cs : List (List (List Int))}, calls shape f l = some cs → Stand l cs
  | f, [], cs, h => by
    rw [calls_nil] at h
    cases h
    exact .nil
  | 0, p :: r, cs, h => by cases h
  | f + 1, p :: r, cs, h => by
    obtain ⟨n, cs', hs, hl, hc, rfl⟩ := calls_cons h
    have ih := stand_of hc
    have := Stand.cons hs (args := r.take n) (by rw [List.length_take]; omega) ih
    rw [List.take_append_drop] at this
    exact this
theorem asked_open {l : List Int} (h : PyKp204.answers_asked l = true) :
    ∃ cs, Stand l cs ∧ (∀ c ∈ cs, Kp204Neutral.asked1 c = true) ∧ cs.length ≤ 400 ∧ Kp204Neutral.begins cs = true ∧
      PyKp204.answers l = told (played nstep Kp204Neutral.start cs) := by
  unfold PyKp204.answers_asked PyKp204.calls at h
  unfold PyKp204.answers PyKp204.calls
  cases hc : calls PyKp204.shape l.length l with
  | none => rw [hc] at h; cases h
  | some cs =>
    rw [hc] at h
    have h : (PyFlat.atMost 400 (cs.map PyKp204.whole) && Kp204Neutral.asked (cs.map PyKp204.whole)) = true := h
    rw [map_whole, Bool.and_eq_true] at h
    obtain ⟨h1, h2⟩ := h
    unfold Kp204Neutral.asked at h2
    rw [Bool.and_eq_true, Bool.and_eq_true] at h2
    refine ⟨cs, stand_of hc, fun c hm => List.all_eq_true.mp h2.2.2 c hm, of_decide_eq_true h2.2.1, h2.1, ?_⟩
    show told (played nstep Kp204Neutral.start (cs.map PyKp204.whole)) = _
    rw [map_whole]
theorem told_cons (s : Kp204Neutral.S) (c : List (List Int)) (cs : List (List (List Int))) :
    told (played nstep s (c :: cs)) = (((nstep s c).2.length : Int) :: (nstep s c).2) ++ told (played nstep (nstep s c).1 cs) := by
  show told ((nstep s c).2 :: played nstep (nstep s c).1 cs) = _
  unfold told
  rw [List.flatMap_cons]
theorem told_nil (s : Kp204Neutral.S) : told (played nstep s []) = [] := rfl
end My
namespace My
open Kp200 (Thing Key Cut key before sorted isAhead lastOf)
theorem before_iff {x y : Key} : before x y = true ↔ x.n < y.n ∨ (x.n = y.n ∧ x.id < y.id) := by
  unfold before
  rw [Bool.or_eq_true, Bool.and_eq_true, decide_eq_true_iff, decide_eq_true_iff, beq_iff_eq]
theorem before_false {x y : Key} : before x y = false ↔ ¬ (x.n < y.n ∨ (x.n = y.n ∧ x.id < y.id)) := by
  rw [← before_iff]
  cases before x y <;> simp
theorem before_irrefl (x : Key) : before x x = false := before_false.mpr (by omega)
theorem before_trans {x y z : Key} (a : before x y = true) (b : before y z = true) : before x z = true := by
  rw [before_iff] at *
  omega
theorem before_asymm {x y : Key} (a : before x y = true) : before y x = false := by
  rw [before_iff] at a
  rw [before_false]
  omega
theorem before_total {x y : Key} (h : x.id ≠ y.id) : before x y = true ∨ before y x = true := by
  rw [before_iff, before_iff]
  omega
theorem key_id (o : Nat) (x : Thing) : (key o x).id = x.id := rfl
/-- in order -/
abbrev Ord (o : Nat) (l : List Thing) : Prop := l.Pairwise fun x y => before (key o x) (key o y) = true
theorem insert_perm (o : Nat) (x : Thing) : ∀ l, (Kp200.insert o x l).Perm (x :: l)
  | [] => List.Perm.refl _
  | y :: l => by
    unfold Kp200.insert
    split
    · exact List.Perm.refl _
    · exact ((insert_perm o x l).cons y).trans (List.Perm.swap x y l)
theorem sorted_perm (o : Nat) : ∀ l, (sorted o l).Perm l
  | [] => List.Perm.refl _
  | x :: l => (insert_perm o x _).trans ((sorted_perm o l).cons x)
theorem insert_ord {o : Nat} {x : Thing} : ∀ {l}, Ord o l → (∀ y ∈ l, x.id ≠ y.id) → Ord o (Kp200.insert o x l)
  | [], _, _ => by
    show Ord o [x]
    exact List.pairwise_singleton _ _
  | y :: l, h, hn => by
    unfold Kp200.insert
    rw [Ord, List.pairwise_cons] at h
    split
    · rename_i hb
      refine List.pairwise_cons.mpr ⟨fun z hz => ?_, List.pairwise_cons.mpr h⟩
      rcases List.mem_cons.mp hz with rfl | hz
      · exact hb
      · exact before_trans hb (h.1 z hz)
    · rename_i hb
      refine List.pairwise_cons.mpr ⟨fun z hz => ?_, insert_ord h.2 fun z hz => hn z (List.mem_cons_of_mem _ hz)⟩
      rcases List.mem_cons.mp ((insert_perm o x l).mem_iff.mp hz) with rfl | hz
      · exact (before_total (fun e => hn y (List.mem_cons_self ..) (by rw [key_id, key_id] at e; exact e))).resolve_left hb
      · exact h.1 z hz
theorem sorted_ord {o : Nat} : ∀ {l : List Thing}, (l.map (·.id)).Nodup → Ord o (sorted o l)
  | [], _ => List.Pairwise.nil
  | x :: l, h => by
    rw [List.map_cons, List.nodup_cons] at h
    refine insert_ord (sorted_ord h.2) fun y hy e => h.1 ?_
    rw [e]
    exact List.mem_map.mpr ⟨y, (sorted_perm o l).mem_iff.mp hy, rfl⟩
/-- two lists in order with the same things are one -/
theorem ord_unique {o : Nat} : ∀ {l l' : List Thing}, Ord o l → Ord o l' → l.Perm l' → l = l'
  | [], l', _, _, p => (List.nil_perm.mp p).symm ▸ rfl
  | x :: l, [], _, _, p => by have := p.length_eq; simp at this
  | x :: l, y :: l', h, h', p => by
    have e : x = y := by
      have m1 : x ∈ y :: l' := p.mem_iff.mp (List.mem_cons_self ..)
      have m2 : y ∈ x :: l := p.mem_iff.mpr (List.mem_cons_self ..)
      rcases List.mem_cons.mp m1 with e | m1
      · exact e
      · rcases List.mem_cons.mp m2 with e | m2
        · exact e.symm
        · have a := (List.pairwise_cons.mp h).1 y m2
          have b := (List.pairwise_cons.mp h').1 x m1
          rw [before_asymm a] at b
          cases b
    subst e
    rw [ord_unique (List.pairwise_cons.mp h).2 (List.pairwise_cons.mp h').2 (List.Perm.cons_inv p)]
theorem sorted_unique {o : Nat} {l l' : List Thing} (hn : (l.map (·.id)).Nodup) (h : Ord o l') (p : l'.Perm l) : l' = sorted o l :=
  ord_unique h (sorted_ord hn) (p.trans (sorted_perm o l).symm)
theorem nodup_filter {l : List Thing} (p : Thing → Bool) (hn : (l.map (·.id)).Nodup) : ((l.filter p).map (·.id)).Nodup :=
  List.Nodup.sublist ((List.filter_sublist (l := l) (p := p)).map (·.id)) hn
theorem filter_sorted {o : Nat} {l : List Thing} (p : Thing → Bool) (hn : (l.map (·.id)).Nodup) : (sorted o l).filter p = sorted o (l.filter p) := by
  refine sorted_unique (nodup_filter p hn) ?_ ((sorted_perm o l).filter p)
  exact (sorted_ord hn).sublist List.filter_sublist
end My
namespace My
open Kp200 (Thing)
/-- a thing as the program keeps it -/
structure T where
  owner : Nat
  a : Nat
  b : Nat
  mask : Nat
  there : Bool
  erased : Bool
/-- those that are there, the first of the list with id k -/
def live : Nat → List T → List Thing
  | _, [] => []
  | k, t :: r => if t.there = true then ⟨k, t.a, t.b⟩ :: live (k + 1) r else live (k + 1) r
def heldOf (t : T) : Kp204.Held := ⟨t.owner, t.mask, t.erased⟩
theorem live_cons (k : Nat) (t : T) (r : List T) : live k (t :: r) = if t.there = true then ⟨k, t.a, t.b⟩ :: live (k + 1) r else live (k + 1) r := rfl
theorem live_ge : ∀ (l : List T) (k : Nat), ∀ x ∈ live k l, k ≤ x.id
  | [], k, x, h => nomatch h
  | t :: r, k, x, h => by
    rw [live_cons] at h
    split at h
    · rcases List.mem_cons.mp h with rfl | h
      · exact Nat.le_refl _
      · have := live_ge r (k + 1) x h; omega
    · have := live_ge r (k + 1) x h; omega
theorem live_lt : ∀ (l : List T) (k : Nat), ∀ x ∈ live k l, x.id < k + l.length
  | [], k, x, h => nomatch h
  | t :: r, k, x, h => by
    rw [live_cons] at h
    rw [List.length_cons]
    split at h
    · rcases List.mem_cons.mp h with rfl | h
      · show k < _; omega
      · have := live_lt r (k + 1) x h; omega
    · have := live_lt r (k + 1) x h; omega
theorem live_nodup : ∀ (l : List T) (k : Nat), ((live k l).map (·.id)).Nodup
  | [], k => List.Pairwise.nil
  | t :: r, k => by
    rw [live_cons]
    split
    · rw [List.map_cons, List.nodup_cons]
      refine ⟨fun h => ?_, live_nodup r (k + 1)⟩
      obtain ⟨x, hx, e⟩ := List.mem_map.mp h
      have := live_ge r (k + 1) x hx
      have e : x.id = k := e
      omega
    · exact live_nodup r (k + 1)
theorem live_snoc : ∀ (l : List T) (k : Nat) (t : T), t.there = true → live k (l ++ [t]) = live k l ++ [⟨k + l.length, t.a, t.b⟩]
  | [], k, t, h => by
    show live k [t] = [⟨k + 0, t.a, t.b⟩]
    rw [live_cons, if_pos h]
    rfl
  | u :: r, k, t, h => by
    rw [List.cons_append, live_cons, live_cons, live_snoc r (k + 1) t h, List.length_cons, show k + 1 + r.length = k + (r.length + 1) by omega]
    split
    · rfl
    · rfl
/-- what stands at place i is in the list of those that are there -/
theorem live_mem : ∀ {l : List T} {k i : Nat} {t : T}, l[i]? = some t → t.there = true → (⟨k + i, t.a, t.b⟩ : Thing) ∈ live k l
  | [], k, i, t, h, _ => by simp at h
  | u :: r, k, 0, t, h, ht => by
    have e : u = t := Option.some.inj h
    subst e
    rw [live_cons, if_pos ht]
    exact List.mem_cons_self ..
  | u :: r, k, i + 1, t, h, ht => by
    have ih := live_mem (k := k + 1) (l := r) (i := i) h ht
    rw [show k + 1 + i = k + (i + 1) by omega] at ih
    rw [live_cons]
    split
    · exact List.mem_cons_of_mem _ ih
    · exact ih
theorem mem_live : ∀ {l : List T} {k : Nat} {x : Thing}, x ∈ live k l → ∃ t, l[x.id - k]? = some t ∧ t.there = true ∧ x = ⟨x.id, t.a, t.b⟩
  | [], k, x, h => nomatch h
  | u :: r, k, x, h => by
    have tl : x ∈ live (k + 1) r → ∃ t, (u :: r)[x.id - k]? = some t ∧ t.there = true ∧ x = ⟨x.id, t.a, t.b⟩ := fun h => by
      obtain ⟨t, h1, h2⟩ := mem_live h
      have := live_ge r (k + 1) x h
      exact ⟨t, by rw [show x.id - k = (x.id - (k + 1)) + 1 by omega]; exact h1, h2⟩
    rw [live_cons] at h
    split at h
    · rename_i hu
      rcases List.mem_cons.mp h with rfl | h
      · exact ⟨u, by show (u :: r)[k - k]? = _; rw [Nat.sub_self]; rfl, hu, rfl⟩
      · exact tl h
    · exact tl h
theorem live_find {l : List T} {i : Nat} : ((live 0 l).find? fun x => x.id == i).isNone = true ↔ ∀ t, l[i]? = some t → t.there = false := by
  rw [Option.isNone_iff_eq_none, List.find?_eq_none]
  constructor
  · intro h t ht
    cases e : t.there with
    | false => rfl
    | true =>
      have m := live_mem (k := 0) ht e
      rw [Nat.zero_add] at m
      exact absurd (beq_self_eq_true i) (h _ m)
  · intro h x hx hb
    obtain ⟨t, h1, h2, _⟩ := mem_live hx
    rw [eq_of_beq hb, Nat.sub_zero] at h1
    rw [h t h1] at h2
    cases h2
theorem live_set : ∀ {l : List T} {k i : Nat} {t u : T}, l[i]? = some t → t.there = true → u.there = true → live k (l.set i u) = (live k l).map fun x => if x.id = k + i then ⟨k + i, u.a, u.b⟩ else x
  | [], k, i, t, u, h, _, _ => by simp at h
  | v :: r, k, 0, t, u, h, ht, hu => by
    have e : v = t := Option.some.inj h
    subst e
    show live k (u :: r) = _
    rw [live_cons, if_pos hu, live_cons, if_pos ht, List.map_cons]
    congr 1
    · show _ = if k = k + 0 then _ else _
      rw [if_pos (show k = k + 0 from rfl)]; rfl
    · have : (live (k + 1) r).map (fun x => if x.id = k + 0 then (⟨k + 0, u.a, u.b⟩ : Thing) else x) = (live (k + 1) r).map id := List.map_congr_left fun x hx => by
        have := live_ge r (k + 1) x hx
        rw [if_neg (by omega)]; rfl
      rw [this, List.map_id]
  | v :: r, k, i + 1, t, u, h, ht, hu => by
    have ih := live_set (k := k + 1) (l := r) (i := i) h ht hu
    rw [show k + 1 + i = k + (i + 1) by omega] at ih
    show live k (v :: r.set i u) = _
    rw [live_cons, live_cons, ih]
    split
    · rw [List.map_cons]
      congr 1
      show _ = if k = k + (i + 1) then _ else _
      rw [if_neg (by omega)]
    · rfl
theorem live_drop : ∀ {l : List T} {k i : Nat} {t u : T}, l[i]? = some t → u.there = false → live k (l.set i u) = (live k l).filter fun x => x.id != k + i
  | [], k, i, t, u, h, _ => by simp at h
  | v :: r, k, 0, t, u, h, hu => by
    show live k (u :: r) = _
    have e : (live (k + 1) r).filter (fun x => x.id != k + 0) = live (k + 1) r := List.filter_eq_self.mpr fun x hx => by
      have := live_ge r (k + 1) x hx
      exact bne_iff_ne.mpr (by omega)
    rw [live_cons, if_neg (by rw [hu]; exact Bool.false_ne_true), live_cons]
    split
    · rw [List.filter_cons, if_neg (by show ¬ (k != k + 0) = true; simp), e]
    · exact e.symm
  | v :: r, k, i + 1, t, u, h, hu => by
    have ih := live_drop (k := k + 1) (l := r) (i := i) h hu
    rw [show k + 1 + i = k + (i + 1) by omega] at ih
    show live k (v :: r.set i u) = _
    rw [live_cons, live_cons, ih]
    split
    · rw [List.filter_cons, if_pos (by show (k != k + (i + 1)) = true; exact bne_iff_ne.mpr (by omega))]
    · rfl
/-- what is not there is no matter -/
theorem filter_gone {l : List T} {i : Nat} (h : ∀ t, l[i]? = some t → t.there = false) : (live 0 l).filter (fun x => x.id != i) = live 0 l := List.filter_eq_self.mpr fun x hx => by
  obtain ⟨t, h1, h2, _⟩ := mem_live hx
  refine bne_iff_ne.mpr fun e => ?_
  rw [e, Nat.sub_zero] at h1
  rw [h t h1] at h2
  cases h2
/-- one fewer -/
theorem live_drop_len : ∀ {l : List T} {k i : Nat} {t u : T}, l[i]? = some t → t.there = true → u.there = false → (live k (l.set i u)).length + 1 = (live k l).length
  | [], k, i, t, u, h, _, _ => by simp at h
  | v :: r, k, 0, t, u, h, ht, hu => by
    have e : v = t := Option.some.inj h
    subst e
    show (live k (u :: r)).length + 1 = _
    rw [live_cons, if_neg (by rw [hu]; exact Bool.false_ne_true), live_cons, if_pos ht]
    rfl
  | v :: r, k, i + 1, t, u, h, ht, hu => by
    have ih := live_drop_len (k := k + 1) (l := r) (i := i) h ht hu
    show (live k (v :: r.set i u)).length + 1 = _
    rw [live_cons, live_cons]
    split
    · rw [List.length_cons, List.length_cons, ih]
    · exact ih
end My
namespace My
open Kp200 (Thing)
open Kp204 (House)
/-- the specification's house holds these things -/
structure Holds (ts : List T) (h : House) : Prop where
  things : h.things = live 0 ts
  held : h.held = ts.map heldOf
/-- what holds of things -/
structure Good (t : T) : Prop where
  ow : t.owner ≤ 15
  a : t.a < 4294967296
  b : t.b < 4294967296
  mask : t.mask ≤ 65535
  er : t.erased = true → t.there = false
/-! the program's calls, as functions -/
def mAdd (ts : List T) (w a b m : Nat) : List T × Int :=
  if 15 < w ∨ 65535 < m then (ts, -22) else if 64 ≤ (live 0 ts).length ∨ 1000000 ≤ ts.length then (ts, -28) else (ts ++ [⟨w, a, b, m, true, false⟩], ts.length)
/-- why w may not set or drop i, or 0 -/
def mRef (ts : List T) (w i : Nat) : Int := match ts[i]? with
  | none => -2
  | some t => if t.there = false then -2 else if t.owner = w then 0 else -1
def mSet (ts : List T) (w i a b m : Nat) : List T × Int :=
  if mRef ts w i ≠ 0 then (ts, mRef ts w i) else if 65535 < m then (ts, -22) else match ts[i]? with
    | none => (ts, 0)
    | some t => (ts.set i { t with a := a, b := b, mask := m }, 0)
def mDrop (ts : List T) (w i : Nat) : List T × Int :=
  if mRef ts w i ≠ 0 then (ts, mRef ts w i) else match ts[i]? with
    | none => (ts, 0)
    | some t => (ts.set i { t with there := false }, 0)
def mErase (ts : List T) (w i : Nat) : List T × Int := match ts[i]? with
  | none => (ts, -2)
  | some t => if t.owner ≠ w then (ts, -1) else if t.erased = true then (ts, -17) else (ts.set i { t with there := false, erased := true }, 0)
/-! ### the specification's steps -/
theorem n_begin (s : Kp204.State) : nstep s [[0]] = (some ⟨[], [], [], 0⟩, [0]) := rfl
theorem n_add (h : House) (w a b m : Nat) : nstep (some h) [[1, (w : Int), (a : Int), (b : Int), (m : Int)]] =
    ((Kp204.step (some h) (.add w a b m)).1, (Kp204.step (some h) (.add w a b m)).2.num :: Kp204Neutral.outs (Kp204.step (some h) (.add w a b m)).2.nums) := rfl
theorem n_set (h : House) (w i a b m : Nat) : nstep (some h) [[2, (w : Int), (i : Int), (a : Int), (b : Int), (m : Int)]] =
    ((Kp204.step (some h) (.set w i a b m)).1, (Kp204.step (some h) (.set w i a b m)).2.num :: Kp204Neutral.outs (Kp204.step (some h) (.set w i a b m)).2.nums) := rfl
theorem n_drop (h : House) (w i : Nat) : nstep (some h) [[3, (w : Int), (i : Int)]] =
    ((Kp204.step (some h) (.drop w i)).1, (Kp204.step (some h) (.drop w i)).2.num :: Kp204Neutral.outs (Kp204.step (some h) (.drop w i)).2.nums) := rfl
theorem n_erase (h : House) (w i : Nat) : nstep (some h) [[4, (w : Int), (i : Int)]] =
    ((Kp204.step (some h) (.erase w i)).1, (Kp204.step (some h) (.erase w i)).2.num :: Kp204Neutral.outs (Kp204.step (some h) (.erase w i)).2.nums) := rfl
theorem n_open (h : House) (w m o lo hi : Nat) : nstep (some h) [[5, (w : Int), (m : Int), (o : Int), (lo : Int), (hi : Int)]] =
    ((Kp204.step (some h) (.open_ w m o lo hi)).1, (Kp204.step (some h) (.open_ w m o lo hi)).2.num :: Kp204Neutral.outs (Kp204.step (some h) (.open_ w m o lo hi)).2.nums) := rfl
theorem n_next (h : House) (w r n : Nat) : nstep (some h) [[6, (w : Int), (r : Int), (n : Int)]] =
    ((Kp204.step (some h) (.next w r n)).1, (Kp204.step (some h) (.next w r n)).2.num :: Kp204Neutral.outs (Kp204.step (some h) (.next w r n)).2.nums) := rfl
theorem n_back (h : House) (w r n : Nat) : nstep (some h) [[7, (w : Int), (r : Int), (n : Int)]] =
    ((Kp204.step (some h) (.back w r n)).1, (Kp204.step (some h) (.back w r n)).2.num :: Kp204Neutral.outs (Kp204.step (some h) (.back w r n)).2.nums) := rfl
theorem n_left (h : House) (w r : Nat) : nstep (some h) [[8, (w : Int), (r : Int)]] =
    ((Kp204.step (some h) (.left w r)).1, (Kp204.step (some h) (.left w r)).2.num :: Kp204Neutral.outs (Kp204.step (some h) (.left w r)).2.nums) := rfl
theorem n_close (h : House) (w r : Nat) : nstep (some h) [[9, (w : Int), (r : Int)]] =
    ((Kp204.step (some h) (.close w r)).1, (Kp204.step (some h) (.close w r)).2.num :: Kp204Neutral.outs (Kp204.step (some h) (.close w r)).2.nums) := rfl
/-! ### .. are the program's -/
theorem s_add {ts : List T} {h : House} (H : Holds ts h) (w a b m : Nat) :
    ∃ h', Kp204.step (some h) (.add w a b m) = (some h', ⟨(mAdd ts w a b m).2, []⟩) ∧ Holds (mAdd ts w a b m).1 h' ∧ h'.readers = h.readers ∧ h'.opened = h.opened := by
  unfold mAdd
  show ∃ h', (if Kp204.PEOPLE ≤ w ∨ Kp204.MASK < m then (some h, Kp204.say (-22)) else if Kp200.THINGS ≤ h.things.length ∨ Kp200.CAME ≤ h.held.length then (some h, Kp204.say (-28)) else _) = _ ∧ _
  by_cases c1 : 15 < w ∨ 65535 < m
  · rw [if_pos c1, if_pos (show Kp204.PEOPLE ≤ w ∨ Kp204.MASK < m by unfold Kp204.PEOPLE Kp204.MASK; omega)]
    exact ⟨h, rfl, H, rfl, rfl⟩
  · rw [if_neg c1, if_neg (show ¬ (Kp204.PEOPLE ≤ w ∨ Kp204.MASK < m) by unfold Kp204.PEOPLE Kp204.MASK; omega)]
    have el : h.held.length = ts.length := by rw [H.held, List.length_map]
    rw [H.things, el]
    by_cases c2 : 64 ≤ (live 0 ts).length ∨ 1000000 ≤ ts.length
    · rw [if_pos c2, if_pos (show Kp200.THINGS ≤ (live 0 ts).length ∨ Kp200.CAME ≤ ts.length from c2)]
      exact ⟨h, rfl, H, rfl, rfl⟩
    · rw [if_neg c2, if_neg (show ¬ (Kp200.THINGS ≤ (live 0 ts).length ∨ Kp200.CAME ≤ ts.length) from c2)]
      refine ⟨_, rfl, ⟨?_, ?_⟩, rfl, rfl⟩
      · show live 0 ts ++ [⟨ts.length, a, b⟩] = live 0 (ts ++ [⟨w, a, b, m, true, false⟩])
        rw [live_snoc _ _ _ rfl, Nat.zero_add]
      · show h.held ++ [⟨w, m, false⟩] = (ts ++ [(⟨w, a, b, m, true, false⟩ : T)]).map heldOf
        rw [List.map_append, H.held]
        rfl
theorem owner_iff {ts : List T} {h : House} (H : Holds ts h) {i w : Nat} : Kp204.ownerOf h i = some w ↔ ∃ t, ts[i]? = some t ∧ t.owner = w := by
  unfold Kp204.ownerOf
  rw [H.held, List.getElem?_map]
  cases e : ts[i]? with
  | none => simp
  | some t => simp [heldOf]
theorem ref_spec {ts : List T} {h : House} (H : Holds ts h) {i w : Nat} {α : Type} {x : α} {f : Int → α} :
    (if (Kp204.thing h i).isNone = true then f (-2) else if Kp204.ownerOf h i ≠ some w then f (-1) else x) = if mRef ts w i ≠ 0 then f (mRef ts w i) else x := by
  have e1 : ((Kp204.thing h i).isNone = true) ↔ ∀ t, ts[i]? = some t → t.there = false := by
    unfold Kp204.thing
    rw [H.things]
    exact live_find
  have e2 := owner_iff H (i := i) (w := w)
  unfold mRef
  cases e : ts[i]? with
  | none =>
    rw [e] at e1
    rw [if_pos (e1.mpr fun t h => nomatch h)]
    rfl
  | some t =>
    rw [e] at e1 e2
    show _ = if (if t.there = false then (-2 : Int) else if t.owner = w then 0 else -1) ≠ 0 then f (if t.there = false then (-2 : Int) else if t.owner = w then 0 else -1) else x
    by_cases c : t.there = false
    · rw [if_pos (e1.mpr fun u hu => by cases hu; exact c), if_pos c]
      rfl
    · rw [if_neg (fun z => c (e1.mp z t rfl)), if_neg c]
      by_cases c2 : t.owner = w
      · rw [if_neg (fun z => z (e2.mpr ⟨t, rfl, c2⟩)), if_pos c2]
        rfl
      · rw [if_pos (fun z => c2 (by obtain ⟨u, hu, q⟩ := e2.mp z; cases hu; exact q)), if_neg c2]
        rfl
theorem ref_zero {ts : List T} {w i : Nat} (h : mRef ts w i = 0) : ∃ t, ts[i]? = some t ∧ t.there = true ∧ t.owner = w := by
  unfold mRef at h
  cases e : ts[i]? with
  | none => rw [e] at h; cases h
  | some t =>
    rw [e] at h
    have h : (if t.there = false then (-2 : Int) else if t.owner = w then 0 else -1) = 0 := h
    by_cases c : t.there = false
    · rw [if_pos c] at h; cases h
    · rw [if_neg c] at h
      by_cases c2 : t.owner = w
      · exact ⟨t, rfl, by cases q : t.there; exact absurd q c; rfl, c2⟩
      · rw [if_neg c2] at h; cases h
theorem map_set {α β : Type} (f : α → β) (l : List α) (i : Nat) (x : α) : (l.set i x).map f = (l.map f).set i (f x) := List.map_set
theorem s_set {ts : List T} {h : House} (H : Holds ts h) (G : ∀ t ∈ ts, Good t) (w i a b m : Nat) :
    ∃ h', Kp204.step (some h) (.set w i a b m) = (some h', ⟨(mSet ts w i a b m).2, []⟩) ∧ Holds (mSet ts w i a b m).1 h' ∧ h'.readers = h.readers ∧ h'.opened = h.opened := by
  have e : Kp204.step (some h) (.set w i a b m) = if (Kp204.thing h i).isNone = true then (some h, Kp204.say (-2)) else if Kp204.ownerOf h i ≠ some w then (some h, Kp204.say (-1)) else if Kp204.MASK < m then (some h, Kp204.say (-22)) else
          (some { h with things := h.things.map (fun x => if x.id = i then ⟨i, a, b⟩ else x), held := h.held.set i ⟨w, m, false⟩ }, Kp204.say 0) := rfl
  rw [e, ref_spec H (f := fun z => (some h, Kp204.say z))]
  unfold mSet
  by_cases c : mRef ts w i ≠ 0
  · rw [if_pos c, if_pos c]
    exact ⟨h, rfl, H, rfl, rfl⟩
  · rw [if_neg c, if_neg c]
    by_cases c2 : 65535 < m
    · rw [if_pos c2, if_pos (show Kp204.MASK < m from c2)]
      exact ⟨h, rfl, H, rfl, rfl⟩
    · rw [if_neg c2, if_neg (show ¬ Kp204.MASK < m from c2)]
      obtain ⟨t, ht, h1, h2⟩ := ref_zero (Decidable.not_not.mp c)
      have ge := (G t (List.mem_of_getElem? ht)).er
      have hne : t.erased = false := by
        cases q : t.erased with
        | false => rfl
        | true => rw [ge q] at h1; cases h1
      rw [ht]
      refine ⟨_, rfl, ⟨?_, ?_⟩, rfl, rfl⟩
      · show h.things.map (fun x => if x.id = i then ⟨i, a, b⟩ else x) = live 0 (ts.set i { t with a := a, b := b, mask := m })
        rw [live_set ht h1 (by exact h1), H.things, Nat.zero_add]
      · show h.held.set i ⟨w, m, false⟩ = (ts.set i { t with a := a, b := b, mask := m }).map heldOf
        rw [map_set, H.held]
        show _ = (ts.map heldOf).set i ⟨t.owner, m, t.erased⟩
        rw [h2, hne]
theorem s_drop {ts : List T} {h : House} (H : Holds ts h) (w i : Nat) :
    ∃ h', Kp204.step (some h) (.drop w i) = (some h', ⟨(mDrop ts w i).2, []⟩) ∧ Holds (mDrop ts w i).1 h' ∧ h'.readers = h.readers ∧ h'.opened = h.opened := by
  have e : Kp204.step (some h) (.drop w i) = if (Kp204.thing h i).isNone = true then (some h, Kp204.say (-2)) else if Kp204.ownerOf h i ≠ some w then (some h, Kp204.say (-1)) else
          (some { h with things := h.things.filter fun x => x.id != i }, Kp204.say 0) := rfl
  rw [e, ref_spec H (f := fun z => (some h, Kp204.say z))]
  unfold mDrop
  by_cases c : mRef ts w i ≠ 0
  · rw [if_pos c, if_pos c]
    exact ⟨h, rfl, H, rfl, rfl⟩
  · rw [if_neg c, if_neg c]
    obtain ⟨t, ht, h1, h2⟩ := ref_zero (Decidable.not_not.mp c)
    rw [ht]
    refine ⟨_, rfl, ⟨?_, ?_⟩, rfl, rfl⟩
    · show h.things.filter (fun x => x.id != i) = live 0 (ts.set i { t with there := false })
      rw [live_drop ht rfl, H.things, Nat.zero_add]
    · show h.held = (ts.set i { t with there := false }).map heldOf
      rw [map_set, H.held]
      show _ = (ts.map heldOf).set i (heldOf t)
      rw [← map_set, show ts.set i t = ts from by
        obtain ⟨hl, e⟩ := List.getElem?_eq_some_iff.mp ht
        rw [← e, List.set_getElem_self]]
/-- a reader's things as they were, without thing i -/
def less (i : Nat) (r : Kp204.Reader) : Kp204.Reader := { r with was := r.was.map fun l => l.filter fun y => y.id != i }
theorem s_erase {ts : List T} {h : House} (H : Holds ts h) (w i : Nat) :
    ∃ h', Kp204.step (some h) (.erase w i) = (some h', ⟨(mErase ts w i).2, []⟩) ∧ Holds (mErase ts w i).1 h' ∧ (h'.readers = if (mErase ts w i).2 = 0 then h.readers.map (less i) else h.readers) ∧ h'.opened = h.opened := by
  have e : Kp204.step (some h) (.erase w i) = (match h.held[i]? with
          | none => (some h, Kp204.say (-2))
          | some x => if x.owner ≠ w then (some h, Kp204.say (-1)) else if x.erased = true then (some h, Kp204.say (-17)) else
            (some { h with things := h.things.filter (fun y => y.id != i), held := h.held.set i { x with erased := true }, readers := h.readers.map (less i) }, Kp204.say 0)) := rfl
  rw [e, H.held, List.getElem?_map]
  unfold mErase
  cases ht : ts[i]? with
  | none => exact ⟨h, rfl, H, rfl, rfl⟩
  | some t =>
    show ∃ h', (if t.owner ≠ w then (some h, Kp204.say (-1)) else if t.erased = true then (some h, Kp204.say (-17)) else
            (some { h with things := h.things.filter (fun y => y.id != i), held := (ts.map heldOf).set i { heldOf t with erased := true }, readers := h.readers.map (less i) }, Kp204.say 0)) = (some h', ⟨(if t.owner ≠ w then (ts, (-1 : Int)) else if t.erased = true then (ts, -17) else (ts.set i { t with there := false, erased := true }, 0)).2, []⟩) ∧ Holds (if t.owner ≠ w then (ts, (-1 : Int)) else if t.erased = true then (ts, -17) else (ts.set i { t with there := false, erased := true }, 0)).1 h' ∧ (h'.readers = if (if t.owner ≠ w then (ts, (-1 : Int)) else if t.erased = true then (ts, -17) else (ts.set i { t with there := false, erased := true }, 0)).2 = 0 then _ else _) ∧ _
    by_cases c : t.owner ≠ w
    · rw [if_pos c, if_pos c]
      exact ⟨h, rfl, H, rfl, rfl⟩
    · rw [if_neg c, if_neg c]
      by_cases c2 : t.erased = true
      · rw [if_pos c2, if_pos c2]
        exact ⟨h, rfl, H, rfl, rfl⟩
      · rw [if_neg c2, if_neg c2]
        refine ⟨_, rfl, ⟨?_, ?_⟩, rfl, rfl⟩
        · show h.things.filter (fun x => x.id != i) = live 0 (ts.set i { t with there := false, erased := true })
          rw [live_drop ht rfl, H.things, Nat.zero_add]
        · show (ts.map heldOf).set i { heldOf t with erased := true } = (ts.set i { t with there := false, erased := true }).map heldOf
          rw [map_set]
          rfl
end My
namespace My
open Kp200 (Thing)
open Kp204 (House)
abbrev N32 (n : Nat) : Prop := n < 4294967296
theorem nat_of {z : Int} (h : Kp204Neutral.natural z 32 = true) : ∃ n : Nat, z = (n : Int) ∧ N32 n := by
  unfold Kp204Neutral.natural at h
  rw [Bool.and_eq_true, decide_eq_true_iff, decide_eq_true_iff] at h
  have h2 : z < 4294967296 := h.2
  exact ⟨z.toNat, by omega, by unfold N32; omega⟩
/-- a call that may be asked -/
inductive Asked : List Int → Prop
  | begin : Asked [0]
  | add (w a b m : Nat) (hw : N32 w) (ha : N32 a) (hb : N32 b) (hm : N32 m) : Asked [1, (w : Int), (a : Int), (b : Int), (m : Int)]
  | set (w i a b m : Nat) (hw : N32 w) (hi : N32 i) (ha : N32 a) (hb : N32 b) (hm : N32 m) : Asked [2, (w : Int), (i : Int), (a : Int), (b : Int), (m : Int)]
  | drop (w i : Nat) (hw : N32 w) (hi : N32 i) : Asked [3, (w : Int), (i : Int)]
  | erase (w i : Nat) (hw : N32 w) (hi : N32 i) : Asked [4, (w : Int), (i : Int)]
  | open_ (w m o lo hi : Nat) (hw : N32 w) (hm : N32 m) (ho : N32 o) (hl : N32 lo) (hh : N32 hi) : Asked [5, (w : Int), (m : Int), (o : Int), (lo : Int), (hi : Int)]
  | next (w r n : Nat) (hw : N32 w) (hr : N32 r) (hn : N32 n) : Asked [6, (w : Int), (r : Int), (n : Int)]
  | back (w r n : Nat) (hw : N32 w) (hr : N32 r) (hn : N32 n) : Asked [7, (w : Int), (r : Int), (n : Int)]
  | left (w r : Nat) (hw : N32 w) (hr : N32 r) : Asked [8, (w : Int), (r : Int)]
  | close (w r : Nat) (hw : N32 w) (hr : N32 r) : Asked [9, (w : Int), (r : Int)]
theorem asked_of {c : List (List Int)} (h : Kp204Neutral.asked1 c = true) : ∃ l, c = [l] ∧ Asked l := by
  unfold Kp204Neutral.asked1 at h
  split at h
  · exact ⟨_, rfl, .begin⟩
  · rw [Bool.and_eq_true, Bool.and_eq_true, Bool.and_eq_true] at h
    obtain ⟨h1, h2, h3, h4⟩ := h
    obtain ⟨w, rfl, hw⟩ := nat_of h1
    obtain ⟨a, rfl, ha⟩ := nat_of h2
    obtain ⟨b, rfl, hb⟩ := nat_of h3
    obtain ⟨m, rfl, hm⟩ := nat_of h4
    exact ⟨_, rfl, .add w a b m hw ha hb hm⟩
  · rw [Bool.and_eq_true, Bool.and_eq_true, Bool.and_eq_true, Bool.and_eq_true] at h
    obtain ⟨h1, h2, h3, h4, h5⟩ := h
    obtain ⟨w, rfl, hw⟩ := nat_of h1
    obtain ⟨i, rfl, hi⟩ := nat_of h2
    obtain ⟨a, rfl, ha⟩ := nat_of h3
    obtain ⟨b, rfl, hb⟩ := nat_of h4
    obtain ⟨m, rfl, hm⟩ := nat_of h5
    exact ⟨_, rfl, .set w i a b m hw hi ha hb hm⟩
  · rw [Bool.and_eq_true] at h
    obtain ⟨h1, h2⟩ := h
    obtain ⟨w, rfl, hw⟩ := nat_of h1
    obtain ⟨i, rfl, hi⟩ := nat_of h2
    exact ⟨_, rfl, .drop w i hw hi⟩
  · rw [Bool.and_eq_true] at h
    obtain ⟨h1, h2⟩ := h
    obtain ⟨w, rfl, hw⟩ := nat_of h1
    obtain ⟨i, rfl, hi⟩ := nat_of h2
    exact ⟨_, rfl, .erase w i hw hi⟩
  · rw [Bool.and_eq_true, Bool.and_eq_true, Bool.and_eq_true, Bool.and_eq_true] at h
    obtain ⟨h1, h2, h3, h4, h5⟩ := h
    obtain ⟨w, rfl, hw⟩ := nat_of h1
    obtain ⟨m, rfl, hm⟩ := nat_of h2
    obtain ⟨o, rfl, ho⟩ := nat_of h3
    obtain ⟨lo, rfl, hl⟩ := nat_of h4
    obtain ⟨hi, rfl, hh⟩ := nat_of h5
    exact ⟨_, rfl, .open_ w m o lo hi hw hm ho hl hh⟩
  · rw [Bool.and_eq_true, Bool.and_eq_true] at h
    obtain ⟨h1, h2, h3⟩ := h
    obtain ⟨w, rfl, hw⟩ := nat_of h1
    obtain ⟨r, rfl, hr⟩ := nat_of h2
    obtain ⟨n, rfl, hn⟩ := nat_of h3
    exact ⟨_, rfl, .next w r n hw hr hn⟩
  · rw [Bool.and_eq_true, Bool.and_eq_true] at h
    obtain ⟨h1, h2, h3⟩ := h
    obtain ⟨w, rfl, hw⟩ := nat_of h1
    obtain ⟨r, rfl, hr⟩ := nat_of h2
    obtain ⟨n, rfl, hn⟩ := nat_of h3
    exact ⟨_, rfl, .back w r n hw hr hn⟩
  · rw [Bool.and_eq_true] at h
    obtain ⟨h1, h2⟩ := h
    obtain ⟨w, rfl, hw⟩ := nat_of h1
    obtain ⟨r, rfl, hr⟩ := nat_of h2
    exact ⟨_, rfl, .left w r hw hr⟩
  · rw [Bool.and_eq_true] at h
    obtain ⟨h1, h2⟩ := h
    obtain ⟨w, rfl, hw⟩ := nat_of h1
    obtain ⟨r, rfl, hr⟩ := nat_of h2
    exact ⟨_, rfl, .close w r hw hr⟩
  · cases h
theorem begins_of {cs : List (List (List Int))} (h : Kp204Neutral.begins cs = true) : ∃ cs', cs = [[0]] :: cs' := by
  unfold Kp204Neutral.begins at h
  split at h
  · exact ⟨_, rfl⟩
  · cases h
/-- an empty house -/
def house0 : House := ⟨[], [], [], 0⟩
theorem begin_any {cs : List (List (List Int))} (h : Kp204Neutral.begins cs = true) (s : Kp204.State) : PyFlat.played nstep Kp204Neutral.start cs = PyFlat.played nstep s cs := by
  obtain ⟨cs', rfl⟩ := begins_of h
  rfl
/-! ### what holds of things goes on holding -/
theorem good_add {ts : List T} (G : ∀ t ∈ ts, Good t) {w a b m : Nat} (ha : N32 a) (hb : N32 b) : ∀ t ∈ (mAdd ts w a b m).1, Good t := by
  unfold mAdd
  by_cases c1 : 15 < w ∨ 65535 < m
  · rw [if_pos c1]
    exact G
  · rw [if_neg c1]
    by_cases c2 : 64 ≤ (live 0 ts).length ∨ 1000000 ≤ ts.length
    · rw [if_pos c2]
      exact G
    · rw [if_neg c2]
      intro t ht
      rcases List.mem_append.mp ht with ht | ht
      · exact G t ht
      · have e : t = ⟨w, a, b, m, true, false⟩ := by simpa using ht
        subst e
        exact ⟨by show w ≤ 15; omega, ha, hb, by show m ≤ 65535; omega, fun q => nomatch q⟩
theorem good_put {ts : List T} (G : ∀ t ∈ ts, Good t) {i : Nat} {u : T} (hu : Good u) : ∀ t ∈ ts.set i u, Good t := fun t ht => by
  rcases List.mem_or_eq_of_mem_set ht with h | h
  · exact G t h
  · rw [h]
    exact hu
theorem good_set {ts : List T} (G : ∀ t ∈ ts, Good t) {w i a b m : Nat} (ha : N32 a) (hb : N32 b) : ∀ t ∈ (mSet ts w i a b m).1, Good t := by
  unfold mSet
  by_cases c : mRef ts w i ≠ 0
  · rw [if_pos c]
    exact G
  · rw [if_neg c]
    by_cases c2 : 65535 < m
    · rw [if_pos c2]
      exact G
    · rw [if_neg c2]
      cases e : ts[i]? with
      | none => exact G
      | some t =>
        have g := G t (List.mem_of_getElem? e)
        exact good_put G ⟨g.ow, ha, hb, by show m ≤ 65535; omega, g.er⟩
theorem good_drop {ts : List T} (G : ∀ t ∈ ts, Good t) {w i : Nat} : ∀ t ∈ (mDrop ts w i).1, Good t := by
  unfold mDrop
  by_cases c : mRef ts w i ≠ 0
  · rw [if_pos c]
    exact G
  · rw [if_neg c]
    cases e : ts[i]? with
    | none => exact G
    | some t =>
      have g := G t (List.mem_of_getElem? e)
      exact good_put G ⟨g.ow, g.a, g.b, g.mask, fun _ => rfl⟩
theorem good_erase {ts : List T} (G : ∀ t ∈ ts, Good t) {w i : Nat} : ∀ t ∈ (mErase ts w i).1, Good t := by
  unfold mErase
  cases e : ts[i]? with
  | none => exact G
  | some t =>
    show ∀ x ∈ (if t.owner ≠ w then (ts, (-1 : Int)) else if t.erased = true then (ts, -17) else (ts.set i { t with there := false, erased := true }, 0)).1, Good x
    by_cases c : t.owner ≠ w
    · rw [if_pos c]
      exact G
    · rw [if_neg c]
      by_cases c2 : t.erased = true
      · rw [if_pos c2]
        exact G
      · rw [if_neg c2]
        have g := G t (List.mem_of_getElem? e)
        exact good_put G ⟨g.ow, g.a, g.b, g.mask, fun _ => rfl⟩
end My
namespace My
open Kp200 (Thing Key Cut key before sorted isAhead lastOf)
open Kp204 (House Reader)
/-- a reader as the program keeps it: its place is (pn, pi) -/
structure R where
  owner : Nat
  order : Nat
  lo : Nat
  hi : Nat
  kept : Option (List Thing)
  pn : Nat
  pi : Nat
/-- what the program keeps -/
structure B where
  ts : List T
  rs : List (Nat × R)
  op : Nat
def erasedAt (ts : List T) (i : Nat) : Bool := match ts[i]? with
  | none => false
  | some t => t.erased
def sees (ts : List T) (w i : Nat) : Bool := match ts[i]? with
  | none => false
  | some t => !t.erased && (t.owner == w || Nat.testBit t.mask w)
def rowsOf (ts : List T) (r : R) : List Thing := match r.kept with
  | none => live 0 ts
  | some l => l
def readsB (ts : List T) (r : R) (x : Thing) : Bool := decide (r.lo ≤ x.a) && (decide (x.a ≤ r.hi) && sees ts r.owner x.id)
def allOf (ts : List T) (r : R) : List Thing := sorted r.order ((rowsOf ts r).filter (readsB ts r))
def aheadB (r : R) (x : Thing) : Bool := !before (key r.order x) ⟨r.pn, r.pi⟩
def nextOf (ts : List T) (r : R) (n : Nat) : List Thing := ((allOf ts r).filter (aheadB r)).take n
def lastN (n : Nat) (l : List Thing) : List Thing := l.drop (l.length - n)
def backOf (ts : List T) (r : R) (n : Nat) : List Thing := lastN n ((allOf ts r).filter fun x => !aheadB r x)
def findR (rs : List (Nat × R)) (i : Nat) : Option R := (rs.find? fun p => p.1 == i).map (·.2)
def setR (rs : List (Nat × R)) (i : Nat) (r : R) : List (Nat × R) := rs.map fun p => if p.1 = i then (p.1, r) else p
def dropR (rs : List (Nat × R)) (i : Nat) : List (Nat × R) := rs.filter fun p => p.1 != i
/-- why w may not use reader i, or 0 -/
def mRefR (rs : List (Nat × R)) (w i : Nat) : Int := match findR rs i with
  | none => -2
  | some r => if r.owner = w then 0 else -1
def tellB (l : List Thing) : List Int := (l.length : Int) :: l.flatMap fun x => [(x.id : Int), (x.a : Int), (x.b : Int)]
def mOpen (b : B) (w m o lo hi : Nat) : B × Int :=
  if 15 < w ∨ 1 < m ∨ 3 < o ∨ hi < lo then (b, -22) else if 8 ≤ b.rs.length ∨ 1000000 ≤ b.op then (b, -28) else
    ({ b with rs := b.rs ++ [(b.op, ⟨w, o, lo, hi, if m = 1 then some (live 0 b.ts) else none, 0, 0⟩)], op := b.op + 1 }, b.op)
def behindR (r : R) (x : Thing) : R := { r with pn := (key r.order x).n, pi := x.id + 1 }
def beforeR (r : R) (x : Thing) : R := { r with pn := (key r.order x).n, pi := x.id }
def mNext (b : B) (w i n : Nat) : B × List Int :=
  if mRefR b.rs w i ≠ 0 then (b, [mRefR b.rs w i]) else if n < 1 ∨ 20 < n then (b, [-22]) else match findR b.rs i with
    | none => (b, [])
    | some r => match lastOf (nextOf b.ts r n) with
      | none => (b, tellB (nextOf b.ts r n))
      | some x => ({ b with rs := setR b.rs i (behindR r x) }, tellB (nextOf b.ts r n))
def mBack (b : B) (w i n : Nat) : B × List Int :=
  if mRefR b.rs w i ≠ 0 then (b, [mRefR b.rs w i]) else if n < 1 ∨ 20 < n then (b, [-22]) else match findR b.rs i with
    | none => (b, [])
    | some r => match backOf b.ts r n with
      | [] => (b, tellB [])
      | x :: l => ({ b with rs := setR b.rs i (beforeR r x) }, tellB (x :: l))
def mLeft (b : B) (w i : Nat) : Int :=
  if mRefR b.rs w i ≠ 0 then mRefR b.rs w i else match findR b.rs i with
    | none => 0
    | some r => (((allOf b.ts r).filter (aheadB r)).length : Int)
def mClose (b : B) (w i : Nat) : B × Int :=
  if mRefR b.rs w i ≠ 0 then (b, mRefR b.rs w i) else ({ b with rs := dropR b.rs i }, 0)
/-! ### what holds -/
/-- a kept list -/
structure KeptOk (n : Nat) (l : List Thing) : Prop where
  nd : (l.map (·.id)).Nodup
  lt : ∀ x ∈ l, x.id < n ∧ x.a < 4294967296 ∧ x.b < 4294967296
  ln : l.length ≤ 1000000
structure RGood (n : Nat) (r : R) : Prop where
  ow : r.owner ≤ 15
  od : r.order ≤ 3
  kp : ∀ l, r.kept = some l → KeptOk n l
structure BGood (b : B) : Prop where
  th : ∀ t ∈ b.ts, Good t
  ln : b.ts.length ≤ 1000000
  rd : ∀ p ∈ b.rs, RGood b.ts.length p.2
  nd : (b.rs.map (·.1)).Nodup
  lo : ∀ p ∈ b.rs, p.1 < b.op
  rl : b.rs.length ≤ 8
/-! ### the specification's readers -/
inductive All2 {α β : Type} (P : α → β → Prop) : List α → List β → Prop
  | nil : All2 P [] []
  | cons {a : α} {b : β} {l : List α} {l' : List β} : P a b → All2 P l l' → All2 P (a :: l) (b :: l')
theorem All2.length {α β : Type} {P : α → β → Prop} : ∀ {l : List α} {l' : List β}, All2 P l l' → l.length = l'.length
  | _, _, .nil => rfl
  | _, _, .cons _ t => by rw [List.length_cons, List.length_cons, t.length]
theorem All2.imp {α β : Type} {P Q : α → β → Prop} : ∀ {l : List α} {l' : List β}, All2 P l l' → (∀ a b, a ∈ l → P a b → Q a b) → All2 Q l l'
  | _, _, .nil, _ => .nil
  | _, _, .cons h t, f => .cons (f _ _ (List.mem_cons_self ..) h) (t.imp fun a b m => f a b (List.mem_cons_of_mem _ m))
theorem All2.append {α β : Type} {P : α → β → Prop} {c : α} {d : β} (h : P c d) : ∀ {l : List α} {l' : List β}, All2 P l l' → All2 P (l ++ [c]) (l' ++ [d])
  | _, _, .nil => .cons h .nil
  | _, _, .cons g t => .cons g (t.append h)
theorem All2.map {α β α' β' : Type} {P : α → β → Prop} {Q : α' → β' → Prop} {f : α → α'} {g : β → β'} : ∀ {l : List α} {l' : List β}, All2 P l l' → (∀ a b, a ∈ l → P a b → Q (f a) (g b)) → All2 Q (l.map f) (l'.map g)
  | _, _, .nil, _ => .nil
  | _, _, .cons h t, k => .cons (k _ _ (List.mem_cons_self ..) h) (t.map fun a b m => k a b (List.mem_cons_of_mem _ m))
theorem All2.filter {α β : Type} {P : α → β → Prop} {p : α → Bool} {q : β → Bool} : ∀ {l : List α} {l' : List β}, All2 P l l' → (∀ a b, P a b → p a = q b) → All2 P (l.filter p) (l'.filter q)
  | _, _, .nil, _ => .nil
  | _, _, .cons (a := a) (b := b) h t, k => by
    rw [List.filter_cons, List.filter_cons, ← k a b h]
    split
    · exact .cons h (t.filter k)
    · exact t.filter k
theorem All2.find {α β : Type} {P : α → β → Prop} {p : α → Bool} {q : β → Bool} : ∀ {l : List α} {l' : List β}, All2 P l l' → (∀ a b, P a b → p a = q b) → (l.find? p = none ∧ l'.find? q = none) ∨ ∃ a b, l.find? p = some a ∧ l'.find? q = some b ∧ P a b ∧ a ∈ l
  | _, _, .nil, _ => .inl ⟨rfl, rfl⟩
  | _, _, .cons (a := a) (b := b) h t, k => by
    rw [List.find?_cons, List.find?_cons, ← k a b h]
    cases e : p a with
    | true => exact .inr ⟨a, b, rfl, rfl, h, List.mem_cons_self ..⟩
    | false =>
      rcases t.find k with z | ⟨a', b', h1, h2, h3, h4⟩
      · exact .inl z
      · exact .inr ⟨a', b', h1, h2, h3, List.mem_cons_of_mem _ h4⟩
/-- the program's reader and the specification's -/
structure RR (ts : List T) (p : Nat × R) (r : Reader) : Prop where
  id : r.id = p.1
  who : r.who = p.2.owner
  order : r.order = p.2.order
  lo : r.lo = p.2.lo
  hi : r.hi = p.2.hi
  cut : ∀ k : Key, isAhead r.cut k = !before k ⟨p.2.pn, p.2.pi⟩
  was : r.was = p.2.kept.map fun l => l.filter fun x => !erasedAt ts x.id
structure Sim (b : B) (h : House) : Prop where
  hold : Holds b.ts h
  rds : All2 (RR b.ts) b.rs h.readers
  op : h.opened = b.op
theorem see_eq {b : B} {h : House} (S : Sim b h) (w i : Nat) : Kp204.maySee h w i = sees b.ts w i := by
  unfold Kp204.maySee sees
  rw [S.hold.held, List.getElem?_map]
  cases b.ts[i]? <;> rfl
theorem sees_er {ts : List T} {w i : Nat} (h : sees ts w i = true) : erasedAt ts i = false := by
  unfold sees at h
  unfold erasedAt
  cases e : ts[i]? with
  | none => rfl
  | some t =>
    rw [e] at h
    have h : (!t.erased && (t.owner == w || Nat.testBit t.mask w)) = true := h
    rw [Bool.and_eq_true] at h
    simpa using h.1
theorem reads_eq {b : B} {h : House} (S : Sim b h) {p : Nat × R} {r : Reader} (q : RR b.ts p r) (x : Thing) : Kp204.reads h r x = readsB b.ts p.2 x := by
  unfold Kp204.reads readsB
  rw [q.lo, q.hi, q.who, see_eq S]
theorem rows_filter {b : B} {h : House} (S : Sim b h) {p : Nat × R} {r : Reader} (q : RR b.ts p r) :
    (match r.was with | some l => l | none => h.things).filter (Kp204.reads h r) = (rowsOf b.ts p.2).filter (readsB b.ts p.2) := by
  have e : Kp204.reads h r = readsB b.ts p.2 := funext fun x => reads_eq S q x
  rw [e, q.was]
  unfold rowsOf
  cases k : p.2.kept with
  | none =>
    show h.things.filter _ = _
    rw [S.hold.things]
  | some l =>
    show (l.filter fun x => !erasedAt b.ts x.id).filter _ = l.filter _
    rw [List.filter_filter]
    refine List.filter_congr fun x _ => ?_
    cases c : readsB b.ts p.2 x with
    | false => rfl
    | true =>
      have : sees b.ts p.2.owner x.id = true := by
        unfold readsB at c
        rw [Bool.and_eq_true, Bool.and_eq_true] at c
        exact c.2.2
      rw [sees_er this]
      rfl
theorem all_eq {b : B} {h : House} (S : Sim b h) {p : Nat × R} {r : Reader} (q : RR b.ts p r) : Kp204.all h r = allOf b.ts p.2 := by
  unfold Kp204.all allOf
  rw [q.order]
  exact congrArg (sorted p.2.order) (rows_filter S q)
theorem ahead_eq {ts : List T} {p : Nat × R} {r : Reader} (q : RR ts p r) (x : Thing) : isAhead r.cut (key r.order x) = aheadB p.2 x := by
  unfold aheadB
  rw [q.cut, q.order]
theorem aheadOf_eq {b : B} {h : House} (S : Sim b h) {p : Nat × R} {r : Reader} (q : RR b.ts p r) : Kp204.aheadOf h r = (allOf b.ts p.2).filter (aheadB p.2) := by
  unfold Kp204.aheadOf
  rw [all_eq S q]
  exact List.filter_congr fun x _ => ahead_eq q x
theorem behindOf_eq {b : B} {h : House} (S : Sim b h) {p : Nat × R} {r : Reader} (q : RR b.ts p r) : Kp204.behindOf h r = (allOf b.ts p.2).filter fun x => !aheadB p.2 x := by
  unfold Kp204.behindOf
  rw [all_eq S q]
  exact List.filter_congr fun x _ => by rw [ahead_eq q x]
theorem forward_eq {b : B} {h : House} (S : Sim b h) {p : Nat × R} {r : Reader} (q : RR b.ts p r) (n : Nat) : Kp204.forward h r n = nextOf b.ts p.2 n := by
  unfold Kp204.forward nextOf
  rw [aheadOf_eq S q]
theorem backward_eq {b : B} {h : House} (S : Sim b h) {p : Nat × R} {r : Reader} (q : RR b.ts p r) (n : Nat) : Kp204.backward h r n = backOf b.ts p.2 n := by
  show (Kp204.behindOf h r).drop ((Kp204.behindOf h r).length - n) = _
  unfold backOf lastN
  rw [behindOf_eq S q]
theorem find_rr {b : B} {h : House} (S : Sim b h) (i : Nat) : (findR b.rs i = none ∧ Kp204.reader h i = none) ∨ ∃ r r', findR b.rs i = some r ∧ Kp204.reader h i = some r' ∧ RR b.ts (i, r) r' ∧ (i, r) ∈ b.rs := by
  unfold findR Kp204.reader
  rcases S.rds.find (p := fun p => p.1 == i) (q := fun r => r.id == i) fun a b q => by show (a.1 == i) = (b.id == i); rw [q.id] with ⟨h1, h2⟩ | ⟨p, r', h1, h2, h3, h4⟩
  · exact .inl ⟨by rw [h1]; rfl, h2⟩
  · have e : p.1 = i := eq_of_beq (show (p.1 == i) = true from List.find?_some (p := fun (q : Nat × R) => q.1 == i) h1)
    obtain ⟨j, r⟩ := p
    have e : j = i := e
    subst e
    exact .inr ⟨r, r', by rw [h1]; rfl, h2, h3, h4⟩
theorem on_reader {b : B} {h : House} (S : Sim b h) {w i : Nat} {f : Reader → Kp204.State × Kp204.Ans} :
    (mRefR b.rs w i ≠ 0 ∧ Kp204.onReader h w i f = (some h, Kp204.say (mRefR b.rs w i))) ∨ ∃ r r', mRefR b.rs w i = 0 ∧ findR b.rs i = some r ∧ r.owner = w ∧ Kp204.reader h i = some r' ∧ RR b.ts (i, r) r' ∧ (i, r) ∈ b.rs ∧ Kp204.onReader h w i f = f r' := by
  unfold Kp204.onReader mRefR
  rcases find_rr S i with ⟨h1, h2⟩ | ⟨r, r', h1, h2, h3, h4⟩
  · rw [h1, h2]
    exact .inl ⟨show (-2 : Int) ≠ 0 by decide, rfl⟩
  · rw [h1, h2]
    have e : r'.who = r.owner := h3.who
    show ((if r.owner = w then (0 : Int) else -1) ≠ 0 ∧ (if r'.who ≠ w then (some h, Kp204.say (-1)) else f r') = (some h, Kp204.say (if r.owner = w then (0 : Int) else -1))) ∨ _
    by_cases c : r.owner = w
    · refine .inr ⟨r, r', ?_, rfl, c, rfl, h3, h4, ?_⟩
      · show (if r.owner = w then (0 : Int) else -1) = 0
        rw [if_pos c]
      · show (if r'.who ≠ w then (some h, Kp204.say (-1)) else f r') = f r'
        rw [if_neg (by rw [e]; exact fun z => z c)]
    · refine .inl ⟨by rw [if_neg c]; decide, ?_⟩
      rw [if_pos (by rw [e]; exact c), if_neg c]
theorem tell_eq (l : List Thing) : (Kp204.tell l).num :: Kp204Neutral.outs (Kp204.tell l).nums = tellB l := by
  show (l.length : Int) :: (l.flatMap fun x => [x.id, x.a, x.b]).map (fun (x : Nat) => (x : Int)) = (l.length : Int) :: l.flatMap fun x => [(x.id : Int), (x.a : Int), (x.b : Int)]
  congr 1
  induction l with
  | nil => rfl
  | cons x l ih =>
    rw [List.flatMap_cons, List.flatMap_cons, List.map_append, ih]
    rfl
/-- an answer of the specification as the program's numbers -/
def ansOf (a : Kp204.Ans) : List Int := a.num :: Kp204Neutral.outs a.nums
theorem moved_rr {b : B} {h : House} (S : Sim b h) {i : Nat} {r : R} {r' : Reader} (hr : RR b.ts (i, r) r') {c : Cut} {u : R} (hu : u = { r with pn := u.pn, pi := u.pi }) (hc : ∀ k : Key, isAhead c k = !before k ⟨u.pn, u.pi⟩)
    (nd : (b.rs.map (·.1)).Nodup) (hm : (i, r) ∈ b.rs) : Sim { b with rs := setR b.rs i u } (Kp204.moved h r' c) := by
  refine ⟨⟨S.hold.things, S.hold.held⟩, ?_, S.op⟩
  show All2 (RR b.ts) (b.rs.map _) (h.readers.map _)
  refine S.rds.map fun p q m hq => ?_
  have e1 : r'.id = i := hr.id
  by_cases ci : p.1 = i
  · have eq : p = (i, r) := by
      have : ∀ {l : List (Nat × R)} {x y : Nat × R}, (l.map (·.1)).Nodup → x ∈ l → y ∈ l → x.1 = y.1 → x = y := by
        intro l
        induction l with
        | nil => intro x y _ hx; cases hx
        | cons z l ih =>
          intro x y hn hx hy e
          rw [List.map_cons, List.nodup_cons] at hn
          rcases List.mem_cons.mp hx with ex | hx1
          · rcases List.mem_cons.mp hy with ey | hy1
            · rw [ex, ey]
            · exact absurd (show z.1 ∈ l.map (·.1) from List.mem_map.mpr ⟨y, hy1, by rw [← ex]; exact e.symm⟩) hn.1
          · rcases List.mem_cons.mp hy with ey | hy1
            · exact absurd (show z.1 ∈ l.map (·.1) from List.mem_map.mpr ⟨x, hx1, by rw [← ey]; exact e⟩) hn.1
            · exact ih hn.2 hx1 hy1 e
      exact this nd m hm ci
    subst eq
    rw [if_pos rfl, if_pos (by rw [hq.id, e1])]
    rw [hu]
    exact ⟨hq.id, hq.who, hq.order, hq.lo, hq.hi, hc, hq.was⟩
  · rw [if_neg ci, if_neg (by rw [hq.id, e1]; exact ci)]
    exact hq
theorem behind_cut (j k : Key) : isAhead (.behind j) k = !before k ⟨j.n, j.id + 1⟩ := by
  show before j k = _
  cases e : before j k with
  | true =>
    rw [before_iff] at e
    rw [before_false.mpr (show ¬ (k.n < j.n ∨ (k.n = j.n ∧ k.id < j.id + 1)) by omega)]
    rfl
  | false =>
    rw [before_false] at e
    rw [before_iff.mpr (show k.n < j.n ∨ (k.n = j.n ∧ k.id < j.id + 1) by omega)]
    rfl
theorem s_next {b : B} {h : House} (S : Sim b h) (G : BGood b) (w i n : Nat) : ∃ h' a, Kp204.step (some h) (.next w i n) = (some h', a) ∧ ansOf a = (mNext b w i n).2 ∧ Sim (mNext b w i n).1 h' := by
  have e : Kp204.step (some h) (.next w i n) = Kp204.onReader h w i fun r => if n < 1 ∨ 20 < n then (some h, Kp204.say (-22)) else
          match lastOf (Kp204.forward h r n) with
          | none => (some h, Kp204.tell (Kp204.forward h r n))
          | some x => (some (Kp204.moved h r (.behind (key r.order x))), Kp204.tell (Kp204.forward h r n)) := rfl
  rw [e]
  unfold mNext
  rcases on_reader S (w := w) (i := i) (f := fun r => if n < 1 ∨ 20 < n then (some h, Kp204.say (-22)) else
          match lastOf (Kp204.forward h r n) with
          | none => (some h, Kp204.tell (Kp204.forward h r n))
          | some x => (some (Kp204.moved h r (.behind (key r.order x))), Kp204.tell (Kp204.forward h r n))) with ⟨h1, h2⟩ | ⟨r, r', h1, h2, h3, h4, h5, h6, h7⟩
  · rw [h2, if_pos h1]
    exact ⟨h, _, rfl, rfl, S⟩
  · rw [h7, if_neg (show ¬ mRefR b.rs w i ≠ 0 from fun z => z h1), h2]
    by_cases c : n < 1 ∨ 20 < n
    · rw [if_pos c, if_pos c]
      exact ⟨h, _, rfl, rfl, S⟩
    · rw [if_neg c, if_neg c, forward_eq S h5]
      show ∃ h' a, (match lastOf (nextOf b.ts r n) with
          | none => (some h, Kp204.tell (nextOf b.ts r n))
          | some x => (some (Kp204.moved h r' (.behind (key r'.order x))), Kp204.tell (nextOf b.ts r n))) = (some h', a) ∧ ansOf a = (match lastOf (nextOf b.ts r n) with
      | none => (b, tellB (nextOf b.ts r n))
      | some x => ({ b with rs := setR b.rs i (behindR r x) }, tellB (nextOf b.ts r n))).2 ∧ Sim (match lastOf (nextOf b.ts r n) with
      | none => (b, tellB (nextOf b.ts r n))
      | some x => ({ b with rs := setR b.rs i (behindR r x) }, tellB (nextOf b.ts r n))).1 h'
      cases lastOf (nextOf b.ts r n) with
      | none => exact ⟨h, _, rfl, tell_eq _, S⟩
      | some x =>
        refine ⟨_, _, rfl, tell_eq _, moved_rr S h5 rfl (fun k => ?_) G.nd h6⟩
        rw [behind_cut, show r'.order = r.order from h5.order]
        rfl
theorem s_back {b : B} {h : House} (S : Sim b h) (G : BGood b) (w i n : Nat) : ∃ h' a, Kp204.step (some h) (.back w i n) = (some h', a) ∧ ansOf a = (mBack b w i n).2 ∧ Sim (mBack b w i n).1 h' := by
  have e : Kp204.step (some h) (.back w i n) = Kp204.onReader h w i fun r => if n < 1 ∨ 20 < n then (some h, Kp204.say (-22)) else
          match Kp204.backward h r n with
          | [] => (some h, Kp204.tell (Kp204.backward h r n))
          | x :: _ => (some (Kp204.moved h r (.ahead (key r.order x))), Kp204.tell (Kp204.backward h r n)) := rfl
  rw [e]
  unfold mBack
  rcases on_reader S (w := w) (i := i) (f := fun r => if n < 1 ∨ 20 < n then (some h, Kp204.say (-22)) else
          match Kp204.backward h r n with
          | [] => (some h, Kp204.tell (Kp204.backward h r n))
          | x :: _ => (some (Kp204.moved h r (.ahead (key r.order x))), Kp204.tell (Kp204.backward h r n))) with ⟨h1, h2⟩ | ⟨r, r', h1, h2, h3, h4, h5, h6, h7⟩
  · rw [h2, if_pos h1]
    exact ⟨h, _, rfl, rfl, S⟩
  · rw [h7, if_neg (show ¬ mRefR b.rs w i ≠ 0 from fun z => z h1), h2]
    by_cases c : n < 1 ∨ 20 < n
    · rw [if_pos c, if_pos c]
      exact ⟨h, _, rfl, rfl, S⟩
    · rw [if_neg c, if_neg c, backward_eq S h5]
      show ∃ h' a, (match backOf b.ts r n with
          | [] => (some h, Kp204.tell (backOf b.ts r n))
          | x :: _ => (some (Kp204.moved h r' (.ahead (key r'.order x))), Kp204.tell (backOf b.ts r n))) = (some h', a) ∧ ansOf a = (match backOf b.ts r n with
      | [] => (b, tellB [])
      | x :: l => ({ b with rs := setR b.rs i (beforeR r x) }, tellB (x :: l))).2 ∧ Sim (match backOf b.ts r n with
      | [] => (b, tellB [])
      | x :: l => ({ b with rs := setR b.rs i (beforeR r x) }, tellB (x :: l))).1 h'
      cases backOf b.ts r n with
      | nil => exact ⟨h, _, rfl, tell_eq _, S⟩
      | cons x l =>
        refine ⟨_, _, rfl, tell_eq _, moved_rr S h5 rfl (fun k => ?_) G.nd h6⟩
        show (!before k (key r'.order x)) = _
        rw [show r'.order = r.order from h5.order]
        rfl
theorem s_left {b : B} {h : House} (S : Sim b h) (w i : Nat) : ∃ a, Kp204.step (some h) (.left w i) = (some h, a) ∧ ansOf a = [mLeft b w i] := by
  have e : Kp204.step (some h) (.left w i) = Kp204.onReader h w i fun r => (some h, Kp204.say ((Kp204.aheadOf h r).length : Int)) := rfl
  rw [e]
  unfold mLeft
  rcases on_reader S (w := w) (i := i) (f := fun r => (some h, Kp204.say ((Kp204.aheadOf h r).length : Int))) with ⟨h1, h2⟩ | ⟨r, r', h1, h2, h3, h4, h5, h6, h7⟩
  · rw [h2, if_pos h1]
    exact ⟨_, rfl, rfl⟩
  · rw [h7, if_neg (show ¬ mRefR b.rs w i ≠ 0 from fun z => z h1), h2, aheadOf_eq S h5]
    exact ⟨_, rfl, rfl⟩
theorem s_close {b : B} {h : House} (S : Sim b h) (w i : Nat) : ∃ h' a, Kp204.step (some h) (.close w i) = (some h', a) ∧ ansOf a = [(mClose b w i).2] ∧ Sim (mClose b w i).1 h' := by
  have e : Kp204.step (some h) (.close w i) = Kp204.onReader h w i fun r => (some { h with readers := h.readers.filter fun x => x.id != r.id }, Kp204.say 0) := rfl
  rw [e]
  unfold mClose
  rcases on_reader S (w := w) (i := i) (f := fun r => (some { h with readers := h.readers.filter fun x => x.id != r.id }, Kp204.say 0)) with ⟨h1, h2⟩ | ⟨r, r', h1, h2, h3, h4, h5, h6, h7⟩
  · rw [h2, if_pos h1]
    exact ⟨h, _, rfl, rfl, S⟩
  · rw [h7, if_neg (show ¬ mRefR b.rs w i ≠ 0 from fun z => z h1)]
    refine ⟨_, _, rfl, rfl, ⟨S.hold.things, S.hold.held⟩, ?_, S.op⟩
    have e1 : r'.id = i := h5.id
    rw [e1]
    exact S.rds.filter fun p q hq => by show (p.1 != i) = (q.id != i); rw [hq.id]
theorem er_live {ts : List T} (G : ∀ t ∈ ts, Good t) : (live 0 ts).filter (fun x => !erasedAt ts x.id) = live 0 ts := by
  rw [List.filter_eq_self]
  intro x hx
  obtain ⟨t, h1, h2, _⟩ := mem_live hx
  rw [Nat.sub_zero] at h1
  unfold erasedAt
  rw [h1]
  show (!t.erased) = true
  cases e : t.erased with
  | false => rfl
  | true =>
    rw [(G t (List.mem_of_getElem? h1)).er e] at h2
    cases h2
theorem s_open {b : B} {h : House} (S : Sim b h) (G : BGood b) (w m o lo hi : Nat) : ∃ h' a, Kp204.step (some h) (.open_ w m o lo hi) = (some h', a) ∧ ansOf a = [(mOpen b w m o lo hi).2] ∧ Sim (mOpen b w m o lo hi).1 h' := by
  have e : Kp204.step (some h) (.open_ w m o lo hi) = if Kp204.PEOPLE ≤ w ∨ 1 < m ∨ 3 < o ∨ hi < lo then (some h, Kp204.say (-22)) else if Kp200.READERS ≤ h.readers.length ∨ Kp200.CAME ≤ h.opened then (some h, Kp204.say (-28)) else
          (some { h with readers := h.readers ++ [⟨h.opened, w, o, lo, hi, .front, if m = 1 then some h.things else none⟩], opened := h.opened + 1 }, Kp204.say (h.opened : Int)) := rfl
  rw [e]
  unfold mOpen
  by_cases c : 15 < w ∨ 1 < m ∨ 3 < o ∨ hi < lo
  · rw [if_pos c, if_pos (show Kp204.PEOPLE ≤ w ∨ 1 < m ∨ 3 < o ∨ hi < lo from c)]
    exact ⟨h, _, rfl, rfl, S⟩
  · rw [if_neg c, if_neg (show ¬ (Kp204.PEOPLE ≤ w ∨ 1 < m ∨ 3 < o ∨ hi < lo) from c), ← S.rds.length, S.op]
    by_cases c2 : 8 ≤ b.rs.length ∨ 1000000 ≤ b.op
    · rw [if_pos c2, if_pos (show Kp200.READERS ≤ b.rs.length ∨ Kp200.CAME ≤ b.op from c2)]
      exact ⟨h, _, rfl, rfl, S⟩
    · rw [if_neg c2, if_neg (show ¬ (Kp200.READERS ≤ b.rs.length ∨ Kp200.CAME ≤ b.op) from c2)]
      refine ⟨_, _, rfl, rfl, ⟨S.hold.things, S.hold.held⟩, S.rds.append ⟨rfl, rfl, rfl, rfl, rfl, fun k => ?_, ?_⟩, rfl⟩
      · show true = !before k ⟨0, 0⟩
        rw [before_false.mpr (show ¬ (k.n < 0 ∨ (k.n = 0 ∧ k.id < 0)) by omega)]
        rfl
      · show (if m = 1 then some h.things else none) = (if m = 1 then some (live 0 b.ts) else none).map _
        by_cases cm : m = 1
        · rw [if_pos cm, if_pos cm, S.hold.things]
          show _ = some ((live 0 b.ts).filter fun x => !erasedAt b.ts x.id)
          rw [er_live G.th]
        · rw [if_neg cm, if_neg cm]
          rfl
end My
namespace My
open Kp200 (Thing Key Cut key before sorted isAhead lastOf)
open Kp204 (House Reader)
theorem RR.keep {ts ts' : List T} {p : Nat × R} {r : Reader} (q : RR ts p r) (g : RGood ts.length p.2) (h : ∀ i, i < ts.length → erasedAt ts' i = erasedAt ts i) : RR ts' p r := by
  refine ⟨q.id, q.who, q.order, q.lo, q.hi, q.cut, ?_⟩
  rw [q.was]
  cases k : p.2.kept with
  | none => rfl
  | some l =>
    show some (l.filter fun x => !erasedAt ts x.id) = some (l.filter fun x => !erasedAt ts' x.id)
    congr 1
    exact List.filter_congr fun x hx => by rw [h x.id ((g.kp l k).lt x hx).1]
theorem er_set {ts : List T} {i : Nat} {t u : T} (ht : ts[i]? = some t) (he : u.erased = t.erased) (j : Nat) : erasedAt (ts.set i u) j = erasedAt ts j := by
  unfold erasedAt
  by_cases c : i = j
  · subst c
    rw [List.getElem?_set_self (List.getElem?_eq_some_iff.mp ht).1, ht]
    exact he
  · rw [List.getElem?_set_ne c]
theorem er_app {ts : List T} {u : T} {j : Nat} (h : j < ts.length) : erasedAt (ts ++ [u]) j = erasedAt ts j := by
  unfold erasedAt
  rw [List.getElem?_append_left h]
theorem rgood_len {n m : Nat} (h : n ≤ m) {r : R} (g : RGood n r) : RGood m r :=
  ⟨g.ow, g.od, fun l e => ⟨(g.kp l e).nd, fun x hx => ⟨Nat.lt_of_lt_of_le ((g.kp l e).lt x hx).1 h, ((g.kp l e).lt x hx).2⟩, (g.kp l e).ln⟩⟩
/-- the things change, none is erased or comes back -/
theorem sim_ts {b : B} {h h' : House} {ts' : List T} (S : Sim b h) (G : BGood b) (H : Holds ts' h') (e1 : h'.readers = h.readers) (e2 : h'.opened = h.opened) (he : ∀ i, i < b.ts.length → erasedAt ts' i = erasedAt b.ts i) : Sim { b with ts := ts' } h' := by
  refine ⟨H, ?_, e2.trans S.op⟩
  show All2 (RR ts') b.rs h'.readers
  rw [e1]
  exact S.rds.imp fun p r m q => q.keep (G.rd p m) he
theorem bgood_ts {b : B} {ts' : List T} (G : BGood b) (g : ∀ t ∈ ts', Good t) (h1 : b.ts.length ≤ ts'.length) (h2 : ts'.length ≤ 1000000) : BGood { b with ts := ts' } :=
  ⟨g, h2, fun p m => rgood_len h1 (G.rd p m), G.nd, G.lo, G.rl⟩
theorem add_len {ts : List T} (h : ts.length ≤ 1000000) (w a b m : Nat) : ts.length ≤ (mAdd ts w a b m).1.length ∧ (mAdd ts w a b m).1.length ≤ 1000000 ∧ ∀ i, i < ts.length → erasedAt (mAdd ts w a b m).1 i = erasedAt ts i := by
  unfold mAdd
  by_cases c1 : 15 < w ∨ 65535 < m
  · rw [if_pos c1]
    exact ⟨Nat.le_refl _, h, fun _ _ => rfl⟩
  · rw [if_neg c1]
    by_cases c2 : 64 ≤ (live 0 ts).length ∨ 1000000 ≤ ts.length
    · rw [if_pos c2]
      exact ⟨Nat.le_refl _, h, fun _ _ => rfl⟩
    · rw [if_neg c2]
      have : (ts ++ [(⟨w, a, b, m, true, false⟩ : T)]).length = ts.length + 1 := by rw [List.length_append]; rfl
      refine ⟨?_, ?_, fun i hi => er_app hi⟩
      · show ts.length ≤ (ts ++ [_]).length; omega
      · show (ts ++ [_]).length ≤ 1000000; omega
theorem set_len {ts : List T} (w i a b m : Nat) : (mSet ts w i a b m).1.length = ts.length ∧ ∀ j, erasedAt (mSet ts w i a b m).1 j = erasedAt ts j := by
  unfold mSet
  by_cases c : mRef ts w i ≠ 0
  · rw [if_pos c]
    exact ⟨rfl, fun _ => rfl⟩
  · rw [if_neg c]
    by_cases c2 : 65535 < m
    · rw [if_pos c2]
      exact ⟨rfl, fun _ => rfl⟩
    · rw [if_neg c2]
      cases e : ts[i]? with
      | none => exact ⟨rfl, fun _ => rfl⟩
      | some t => exact ⟨List.length_set, er_set e rfl⟩
theorem drop_len {ts : List T} (w i : Nat) : (mDrop ts w i).1.length = ts.length ∧ ∀ j, erasedAt (mDrop ts w i).1 j = erasedAt ts j := by
  unfold mDrop
  by_cases c : mRef ts w i ≠ 0
  · rw [if_pos c]
    exact ⟨rfl, fun _ => rfl⟩
  · rw [if_neg c]
    cases e : ts[i]? with
    | none => exact ⟨rfl, fun _ => rfl⟩
    | some t => exact ⟨List.length_set, er_set e rfl⟩
theorem erase_cases (ts : List T) (w i : Nat) : (∃ z : Int, z ≠ 0 ∧ mErase ts w i = (ts, z)) ∨ ∃ t, ts[i]? = some t ∧ mErase ts w i = (ts.set i { t with there := false, erased := true }, 0) := by
  unfold mErase
  cases e : ts[i]? with
  | none => exact .inl ⟨-2, by decide, rfl⟩
  | some t =>
    show (∃ z : Int, z ≠ 0 ∧ (if t.owner ≠ w then (ts, (-1 : Int)) else if t.erased = true then (ts, -17) else (ts.set i { t with there := false, erased := true }, 0)) = (ts, z)) ∨ ∃ u, some t = some u ∧ (if t.owner ≠ w then (ts, (-1 : Int)) else if t.erased = true then (ts, -17) else (ts.set i { t with there := false, erased := true }, 0)) = _
    by_cases c : t.owner ≠ w
    · rw [if_pos c]
      exact .inl ⟨-1, by decide, rfl⟩
    · rw [if_neg c]
      by_cases c2 : t.erased = true
      · rw [if_pos c2]
        exact .inl ⟨-17, by decide, rfl⟩
      · rw [if_neg c2]
        exact .inr ⟨t, rfl, rfl⟩
theorem rr_erase {ts : List T} {i : Nat} {t u : T} (ht : ts[i]? = some t) (hu : u.erased = true) {p : Nat × R} {r : Reader} (q : RR ts p r) : RR (ts.set i u) p (less i r) := by
  refine ⟨q.id, q.who, q.order, q.lo, q.hi, q.cut, ?_⟩
  show r.was.map (fun l => l.filter fun y => y.id != i) = _
  rw [q.was]
  cases k : p.2.kept with
  | none => rfl
  | some l =>
    show some ((l.filter fun x => !erasedAt ts x.id).filter fun y => y.id != i) = some (l.filter fun x => !erasedAt (ts.set i u) x.id)
    congr 1
    rw [List.filter_filter]
    refine List.filter_congr fun x _ => ?_
    unfold erasedAt
    by_cases c : i = x.id
    · rw [← c, List.getElem?_set_self (List.getElem?_eq_some_iff.mp ht).1]
      show (i != i && _) = !u.erased
      rw [hu]
      simp
    · rw [List.getElem?_set_ne c, show (x.id != i) = true by simpa using fun z => c z.symm, Bool.true_and]
theorem good_live {ts : List T} (G : ∀ t ∈ ts, Good t) : ∀ x ∈ live 0 ts, x.id < ts.length ∧ x.a < 4294967296 ∧ x.b < 4294967296 := fun x hx => by
  obtain ⟨t, h1, h2, h3⟩ := mem_live hx
  rw [Nat.sub_zero] at h1
  have g := G t (List.mem_of_getElem? h1)
  have ea : x.a = t.a := congrArg Thing.a h3
  have eb : x.b = t.b := congrArg Thing.b h3
  exact ⟨(List.getElem?_eq_some_iff.mp h1).1, by rw [ea]; exact g.a, by rw [eb]; exact g.b⟩
theorem live_len : ∀ (ts : List T) (k : Nat), (live k ts).length ≤ ts.length
  | [], k => Nat.le_refl _
  | t :: r, k => by
    rw [live_cons, List.length_cons]
    split
    · rw [List.length_cons]
      have := live_len r (k + 1)
      omega
    · have := live_len r (k + 1)
      omega
theorem keptOk_live {b : B} (G : BGood b) : KeptOk b.ts.length (live 0 b.ts) := ⟨live_nodup _ _, good_live G.th, Nat.le_trans (live_len _ _) G.ln⟩
theorem rowsOk {b : B} (G : BGood b) {r : R} (g : RGood b.ts.length r) : KeptOk b.ts.length (rowsOf b.ts r) := by
  unfold rowsOf
  cases k : r.kept with
  | none => exact keptOk_live G
  | some l => exact g.kp l k
theorem find_mem {rs : List (Nat × R)} {i : Nat} {r : R} (h : findR rs i = some r) : (i, r) ∈ rs := by
  unfold findR at h
  cases e : rs.find? fun p => p.1 == i with
  | none => rw [e] at h; cases h
  | some p =>
    rw [e] at h
    have h : p.2 = r := Option.some.inj h
    have e2 : p.1 = i := eq_of_beq (show (p.1 == i) = true from List.find?_some (p := fun (q : Nat × R) => q.1 == i) e)
    have m := List.mem_of_find?_eq_some e
    rw [← h, ← e2]
    exact m
theorem setR_ids (rs : List (Nat × R)) (i : Nat) (r : R) : (setR rs i r).map (·.1) = rs.map (·.1) := by
  unfold setR
  rw [List.map_map]
  refine List.map_congr_left fun p _ => ?_
  show (if p.1 = i then (p.1, r) else p).1 = p.1
  split <;> rfl
theorem bgood_set {b : B} (G : BGood b) {i : Nat} {u : R} (g : RGood b.ts.length u) : BGood { b with rs := setR b.rs i u } := by
  have hm : ∀ p ∈ setR b.rs i u, (p.2 = u ∨ p ∈ b.rs) ∧ ∃ q ∈ b.rs, q.1 = p.1 := fun p hp => by
    obtain ⟨q, hq, e⟩ := List.mem_map.mp hp
    by_cases c : q.1 = i
    · rw [if_pos c] at e
      exact ⟨.inl (by rw [← e]), q, hq, by rw [← e]⟩
    · rw [if_neg c] at e
      exact ⟨.inr (by rw [← e]; exact hq), q, hq, by rw [← e]⟩
  refine ⟨G.th, G.ln, fun p hp => ?_, ?_, fun p hp => ?_, ?_⟩
  · rcases (hm p hp).1 with e | e
    · rw [e]; exact g
    · exact G.rd p e
  · show ((setR b.rs i u).map (·.1)).Nodup
    rw [setR_ids]
    exact G.nd
  · obtain ⟨_, q, hq, e⟩ := hm p hp
    rw [← e]
    exact G.lo q hq
  · show (setR b.rs i u).length ≤ 8
    unfold setR
    rw [List.length_map]
    exact G.rl
def mStep (b : B) : List Int → B × List Int
  | [0] => (⟨[], [], 0⟩, [0])
  | [1, w, x, y, m] => ({ b with ts := (mAdd b.ts w.toNat x.toNat y.toNat m.toNat).1 }, [(mAdd b.ts w.toNat x.toNat y.toNat m.toNat).2])
  | [2, w, i, x, y, m] => ({ b with ts := (mSet b.ts w.toNat i.toNat x.toNat y.toNat m.toNat).1 }, [(mSet b.ts w.toNat i.toNat x.toNat y.toNat m.toNat).2])
  | [3, w, i] => ({ b with ts := (mDrop b.ts w.toNat i.toNat).1 }, [(mDrop b.ts w.toNat i.toNat).2])
  | [4, w, i] => ({ b with ts := (mErase b.ts w.toNat i.toNat).1 }, [(mErase b.ts w.toNat i.toNat).2])
  | [5, w, m, o, lo, hi] => ((mOpen b w.toNat m.toNat o.toNat lo.toNat hi.toNat).1, [(mOpen b w.toNat m.toNat o.toNat lo.toNat hi.toNat).2])
  | [6, w, r, n] => mNext b w.toNat r.toNat n.toNat
  | [7, w, r, n] => mBack b w.toNat r.toNat n.toNat
  | [8, w, r] => (b, [mLeft b w.toNat r.toNat])
  | [9, w, r] => ((mClose b w.toNat r.toNat).1, [(mClose b w.toNat r.toNat).2])
  | _ => (b, [])
theorem tell_len (l : List Thing) : (tellB l).length = 1 + 3 * l.length := by
  unfold tellB
  rw [List.length_cons]
  have : (l.flatMap fun x => [(x.id : Int), (x.a : Int), (x.b : Int)]).length = 3 * l.length := by
    induction l with
    | nil => rfl
    | cons x l ih =>
      have e : (x :: l).length = l.length + 1 := rfl
      rw [List.flatMap_cons, List.length_append, ih, e]
      show 3 + 3 * l.length = 3 * (l.length + 1)
      omega
  omega
theorem next_len (b : B) (w i n : Nat) : (mNext b w i n).2.length ≤ 61 := by
  unfold mNext
  by_cases c : mRefR b.rs w i ≠ 0
  · rw [if_pos c]; show 1 ≤ 61; decide
  · rw [if_neg c]
    by_cases c2 : n < 1 ∨ 20 < n
    · rw [if_pos c2]; show 1 ≤ 61; decide
    · rw [if_neg c2]
      cases findR b.rs i with
      | none => show 0 ≤ 61; decide
      | some r =>
        have : (tellB (nextOf b.ts r n)).length ≤ 61 := by
          rw [tell_len]
          have : (nextOf b.ts r n).length ≤ n := by unfold nextOf; rw [List.length_take]; omega
          omega
        show (match lastOf (nextOf b.ts r n) with
          | none => (b, tellB (nextOf b.ts r n))
          | some x => ({ b with rs := setR b.rs i (behindR r x) }, tellB (nextOf b.ts r n))).2.length ≤ 61
        cases lastOf (nextOf b.ts r n) <;> exact this
theorem lastN_len (n : Nat) (l : List Thing) : (lastN n l).length ≤ n := by
  unfold lastN
  rw [List.length_drop]
  omega
theorem back_len (b : B) (w i n : Nat) : (mBack b w i n).2.length ≤ 61 := by
  unfold mBack
  by_cases c : mRefR b.rs w i ≠ 0
  · rw [if_pos c]; show 1 ≤ 61; decide
  · rw [if_neg c]
    by_cases c2 : n < 1 ∨ 20 < n
    · rw [if_pos c2]; show 1 ≤ 61; decide
    · rw [if_neg c2]
      cases findR b.rs i with
      | none => show 0 ≤ 61; decide
      | some r =>
        have hl : (backOf b.ts r n).length ≤ n := lastN_len _ _
        show (match backOf b.ts r n with
          | [] => (b, tellB [])
          | x :: l => ({ b with rs := setR b.rs i (beforeR r x) }, tellB (x :: l))).2.length ≤ 61
        cases e : backOf b.ts r n with
        | nil => show (tellB []).length ≤ 61; decide
        | cons x l =>
          rw [e] at hl
          show (tellB (x :: l)).length ≤ 61
          rw [tell_len]
          omega
theorem next_good {b : B} (G : BGood b) (w i n : Nat) : BGood (mNext b w i n).1 := by
  unfold mNext
  by_cases c : mRefR b.rs w i ≠ 0
  · rw [if_pos c]; exact G
  · rw [if_neg c]
    by_cases c2 : n < 1 ∨ 20 < n
    · rw [if_pos c2]; exact G
    · rw [if_neg c2]
      cases e : findR b.rs i with
      | none => exact G
      | some r =>
        have g := G.rd _ (find_mem e)
        show BGood (match lastOf (nextOf b.ts r n) with
          | none => (b, tellB (nextOf b.ts r n))
          | some x => ({ b with rs := setR b.rs i (behindR r x) }, tellB (nextOf b.ts r n))).1
        cases lastOf (nextOf b.ts r n) with
        | none => exact G
        | some x => exact bgood_set G ⟨g.ow, g.od, g.kp⟩
theorem back_good {b : B} (G : BGood b) (w i n : Nat) : BGood (mBack b w i n).1 := by
  unfold mBack
  by_cases c : mRefR b.rs w i ≠ 0
  · rw [if_pos c]; exact G
  · rw [if_neg c]
    by_cases c2 : n < 1 ∨ 20 < n
    · rw [if_pos c2]; exact G
    · rw [if_neg c2]
      cases e : findR b.rs i with
      | none => exact G
      | some r =>
        have g := G.rd _ (find_mem e)
        show BGood (match backOf b.ts r n with
          | [] => (b, tellB [])
          | x :: l => ({ b with rs := setR b.rs i (beforeR r x) }, tellB (x :: l))).1
        cases backOf b.ts r n with
        | nil => exact G
        | cons x l => exact bgood_set G ⟨g.ow, g.od, g.kp⟩
theorem open_good {b : B} (G : BGood b) (w m o lo hi : Nat) : BGood (mOpen b w m o lo hi).1 := by
  unfold mOpen
  by_cases c : 15 < w ∨ 1 < m ∨ 3 < o ∨ hi < lo
  · rw [if_pos c]; exact G
  · rw [if_neg c]
    by_cases c2 : 8 ≤ b.rs.length ∨ 1000000 ≤ b.op
    · rw [if_pos c2]; exact G
    · rw [if_neg c2]
      refine ⟨G.th, G.ln, fun p hp => ?_, ?_, fun p hp => ?_, ?_⟩
      · rcases List.mem_append.mp hp with hp | hp
        · exact G.rd p hp
        · have e : p = (b.op, ⟨w, o, lo, hi, if m = 1 then some (live 0 b.ts) else none, 0, 0⟩) := by simpa using hp
          rw [e]
          refine ⟨by show w ≤ 15; omega, by show o ≤ 3; omega, fun l e => ?_⟩
          have e : (if m = 1 then some (live 0 b.ts) else none) = some l := e
          by_cases cm : m = 1
          · rw [if_pos cm] at e
            cases e
            exact (show KeptOk b.ts.length (live 0 b.ts) from keptOk_live G)
          · rw [if_neg cm] at e
            cases e
      · show ((b.rs ++ [(b.op, (⟨w, o, lo, hi, if m = 1 then some (live 0 b.ts) else none, 0, 0⟩ : R))]).map (fun p => p.1)).Nodup
        rw [List.map_append]
        refine List.nodup_append.mpr ⟨G.nd, List.nodup_cons.mpr ⟨by simp, List.nodup_nil⟩, fun x hx y hy => ?_⟩
        obtain ⟨p, hp, e⟩ := List.mem_map.mp hx
        have hy : y = b.op := by simpa using hy
        have := G.lo p hp
        have e : p.1 = x := e
        omega
      · rcases List.mem_append.mp hp with hp | hp
        · exact Nat.lt_succ_of_lt (G.lo p hp)
        · have e : p = (b.op, ⟨w, o, lo, hi, if m = 1 then some (live 0 b.ts) else none, 0, 0⟩) := by simpa using hp
          rw [e]
          exact Nat.lt_succ_self _
      · show (b.rs ++ [_]).length ≤ 8
        rw [List.length_append]
        show b.rs.length + 1 ≤ 8
        omega
theorem close_good {b : B} (G : BGood b) (w i : Nat) : BGood (mClose b w i).1 := by
  unfold mClose
  by_cases c : mRefR b.rs w i ≠ 0
  · rw [if_pos c]; exact G
  · rw [if_neg c]
    refine ⟨G.th, G.ln, fun p hp => G.rd p (List.mem_filter.mp hp).1, ?_, fun p hp => G.lo p (List.mem_filter.mp hp).1, Nat.le_trans (List.length_filter_le ..) G.rl⟩
    exact List.Nodup.sublist (List.filter_sublist.map _) G.nd
/-- **the program's step is the specification's** -/
theorem step_sim {l : List Int} (A : Asked l) {b : B} {h : House} (S : Sim b h) (G : BGood b) :
    ∃ h', nstep (some h) [l] = (some h', (mStep b l).2) ∧ Sim (mStep b l).1 h' ∧ BGood (mStep b l).1 ∧ (mStep b l).2.length ≤ 61 := by
  have one : ∀ {z : Int}, [z].length ≤ 61 := fun {z} => by show 1 ≤ 61; decide
  have good0 : BGood ⟨[], [], 0⟩ := by
    refine ⟨?_, ?_, ?_, ?_, ?_, ?_⟩
    · intro t h; cases h
    · decide
    · intro t h; cases h
    · exact List.Pairwise.nil
    · intro t h; cases h
    · decide
  cases A with
  | begin => exact ⟨house0, rfl, ⟨⟨rfl, rfl⟩, .nil, rfl⟩, good0, one⟩
  | add w x y m hw hx hy hm =>
    obtain ⟨h', e, H, e1, e2⟩ := s_add S.hold w x y m
    obtain ⟨l1, l2, l3⟩ := add_len G.ln w x y m
    refine ⟨h', ?_, sim_ts S G H e1 e2 l3, bgood_ts G (good_add G.th hx hy) l1 l2, one⟩
    rw [n_add, e]
    rfl
  | set w i x y m hw hi hx hy hm =>
    obtain ⟨h', e, H, e1, e2⟩ := s_set S.hold G.th w i x y m
    obtain ⟨l1, l3⟩ := set_len (ts := b.ts) w i x y m
    refine ⟨h', ?_, sim_ts S G H e1 e2 fun j _ => l3 j, bgood_ts G (good_set G.th hx hy) (Nat.le_of_eq l1.symm) (Nat.le_trans (Nat.le_of_eq l1) G.ln), one⟩
    rw [n_set, e]
    rfl
  | drop w i hw hi =>
    obtain ⟨h', e, H, e1, e2⟩ := s_drop S.hold w i
    obtain ⟨l1, l3⟩ := drop_len (ts := b.ts) w i
    refine ⟨h', ?_, sim_ts S G H e1 e2 fun j _ => l3 j, bgood_ts G (good_drop G.th) (Nat.le_of_eq l1.symm) (Nat.le_trans (Nat.le_of_eq l1) G.ln), one⟩
    rw [n_drop, e]
    rfl
  | erase w i hw hi =>
    obtain ⟨h', e, H, e1, e2⟩ := s_erase S.hold w i
    have gg := good_erase G.th (w := w) (i := i)
    rcases erase_cases b.ts w i with ⟨z, hz, ez⟩ | ⟨t, ht, ez⟩
    · rw [ez] at e H e1
      rw [if_neg hz] at e1
      refine ⟨h', ?_, ?_, ?_, one⟩
      · rw [n_erase, e]
        show _ = (some h', [(mErase b.ts w i).2])
        rw [ez]
        rfl
      · show Sim { b with ts := (mErase b.ts w i).1 } h'
        rw [ez]
        exact sim_ts S G H e1 e2 fun _ _ => rfl
      · show BGood { b with ts := (mErase b.ts w i).1 }
        rw [ez]
        exact G
    · rw [ez] at e H e1 gg
      rw [if_pos rfl] at e1
      refine ⟨h', ?_, ?_, ?_, one⟩
      · rw [n_erase, e]
        show _ = (some h', [(mErase b.ts w i).2])
        rw [ez]
        rfl
      · show Sim { b with ts := (mErase b.ts w i).1 } h'
        rw [ez]
        refine ⟨H, ?_, e2.trans S.op⟩
        show All2 (RR (b.ts.set i _)) b.rs h'.readers
        rw [e1]
        have := S.rds.map (Q := RR (b.ts.set i { t with there := false, erased := true })) (f := id) (g := less i) fun p r _ q => rr_erase ht rfl q
        rw [List.map_id] at this
        exact this
      · show BGood { b with ts := (mErase b.ts w i).1 }
        rw [ez]
        exact bgood_ts G gg (Nat.le_of_eq List.length_set.symm) (by show (b.ts.set i _).length ≤ _; rw [List.length_set]; exact G.ln)
  | open_ w m o lo hi hw hm ho hl hh =>
    obtain ⟨h', a, e, e1, H⟩ := s_open S G w m o lo hi
    refine ⟨h', ?_, H, open_good G w m o lo hi, one⟩
    rw [n_open, e]
    exact congrArg (Prod.mk (some h')) e1
  | next w r n hw hr hn =>
    obtain ⟨h', a, e, e1, H⟩ := s_next S G w r n
    refine ⟨h', ?_, H, next_good G w r n, next_len b w r n⟩
    rw [n_next, e]
    exact congrArg (Prod.mk (some h')) e1
  | back w r n hw hr hn =>
    obtain ⟨h', a, e, e1, H⟩ := s_back S G w r n
    refine ⟨h', ?_, H, back_good G w r n, back_len b w r n⟩
    rw [n_back, e]
    exact congrArg (Prod.mk (some h')) e1
  | left w r hw hr =>
    obtain ⟨a, e, e1⟩ := s_left S w r
    refine ⟨h, ?_, S, G, one⟩
    rw [n_left, e]
    exact congrArg (Prod.mk (some h)) e1
  | close w r hw hr =>
    obtain ⟨h', a, e, e1, H⟩ := s_close S w r
    refine ⟨h', ?_, H, close_good G w r, one⟩
    rw [n_close, e]
    exact congrArg (Prod.mk (some h')) e1
end My
set_option Elab.async false
set_option linter.all false
set_option maxRecDepth 100000
set_option maxHeartbeats 2000000
namespace My
open PySem PySem.Spec PyProof.Rows L2
open Kp200 (Thing)
def top (i : Nat) : Stmt := PySem.Challenge.pw_maysee_s01_answers.main.body.getD i (.Pass ⟨0, 0, 0, 0⟩)
abbrev sT_init : Stmt := inClass (top 29) 0
abbrev sT_seen_by : Stmt := inClass (top 29) 1
abbrev sR_init : Stmt := inClass (top 30) 0
abbrev sR_rank_of : Stmt := inClass (top 30) 1
abbrev sR_in_range : Stmt := inClass (top 30) 2
abbrev sR_is_ahead : Stmt := inClass (top 30) 3
abbrev sR_go_before : Stmt := inClass (top 30) 4
abbrev sR_go_behind : Stmt := inClass (top 30) 5
abbrev sB_init : Stmt := inClass (top 31) 0
abbrev sB_begin : Stmt := inClass (top 31) 1
abbrev sB_add : Stmt := inClass (top 31) 2
abbrev sB_change : Stmt := inClass (top 31) 3
abbrev sB_drop : Stmt := inClass (top 31) 4
abbrev sB_erase : Stmt := inClass (top 31) 5
abbrev sB_refusal_of_change : Stmt := inClass (top 31) 6
abbrev sB_take_away : Stmt := inClass (top 31) 7
abbrev sB_open_reader : Stmt := inClass (top 31) 8
abbrev sB_read_on : Stmt := inClass (top 31) 9
abbrev sB_read_back : Stmt := inClass (top 31) 10
abbrev sB_count_left : Stmt := inClass (top 31) 11
abbrev sB_close_reader : Stmt := inClass (top 31) 12
abbrev sB_refusal_of_reader : Stmt := inClass (top 31) 13
abbrev sB_refusal_of_reading : Stmt := inClass (top 31) 14
abbrev sB_rows_there : Stmt := inClass (top 31) 15
abbrev sB_rows_read : Stmt := inClass (top 31) 16
abbrev s_numbers_of : Stmt := top 32
abbrev s_answer_of : Stmt := top 33
abbrev s_answer_on_readers : Stmt := top 34
abbrev s_answers : Stmt := top 35
/-- the classes -/
structure Cl where
  T : Addr
  R : Addr
  B : Addr
/-- what the walk asks of the text as the top has made it -/
structure Txt (K : PySem.W.Frag) (mg : Str → Option Value) (C : Cl) : Prop where
  ct : Cls K C.T
  cr : Cls K C.R
  cb : Cls K C.B
  mgT : mg "Thing" = some (.ref C.T)
  mgR : mg "Reader" = some (.ref C.R)
  mgB : mg "Board" = some (.ref C.B)
  len : mg "len" = none
  srt : mg "sorted" = none
  enu : mg "enumerate" = none
  nb : ∃ p, mg "NUMBERS_BEHIND" = some (.ref p) ∧ ∀ H : Hp, SqT K H p (([0, 4, 5, 2, 2, 5, 3, 3, 2, 2] : List Int).map V.int)
  nT_owner : NoAttr K C.T "owner"
  nT_a : NoAttr K C.T "a"
  nT_b : NoAttr K C.T "b"
  nT_mask : NoAttr K C.T "mask"
  nT_there : NoAttr K C.T "there"
  nT_erased : NoAttr K C.T "erased"
  nR_owner : NoAttr K C.R "owner"
  nR_order : NoAttr K C.R "order"
  nR_lo : NoAttr K C.R "lo"
  nR_hi : NoAttr K C.R "hi"
  nR_kept : NoAttr K C.R "kept"
  nR_place : NoAttr K C.R "place"
  nB_things : NoAttr K C.B "things"
  nB_how_many : NoAttr K C.B "how_many"
  nB_readers : NoAttr K C.B "readers"
  nB_opened : NoAttr K C.B "opened"
  c_BEGIN : ∃ t, mg "BEGIN" = some (.int (0) t)
  c_ADD : ∃ t, mg "ADD" = some (.int (1) t)
  c_SET : ∃ t, mg "SET" = some (.int (2) t)
  c_DROP : ∃ t, mg "DROP" = some (.int (3) t)
  c_ERASE : ∃ t, mg "ERASE" = some (.int (4) t)
  c_OPEN_READER : ∃ t, mg "OPEN_READER" = some (.int (5) t)
  c_READ_ON : ∃ t, mg "READ_ON" = some (.int (6) t)
  c_READ_BACK : ∃ t, mg "READ_BACK" = some (.int (7) t)
  c_COUNT_LEFT : ∃ t, mg "COUNT_LEFT" = some (.int (8) t)
  c_CLOSE_READER : ∃ t, mg "CLOSE_READER" = some (.int (9) t)
  c_NOT_THEIRS : ∃ t, mg "NOT_THEIRS" = some (.int (-1) t)
  c_NOT_FOUND : ∃ t, mg "NOT_FOUND" = some (.int (-2) t)
  c_ERASED_BEFORE : ∃ t, mg "ERASED_BEFORE" = some (.int (-17) t)
  c_OUT_OF_RANGE : ∃ t, mg "OUT_OF_RANGE" = some (.int (-22) t)
  c_NO_ROOM : ∃ t, mg "NO_ROOM" = some (.int (-28) t)
  c_LAST_PERSON : ∃ t, mg "LAST_PERSON" = some (.int (15) t)
  c_LAST_MASK : ∃ t, mg "LAST_MASK" = some (.int (65535) t)
  c_LAST_NUMBER : ∃ t, mg "LAST_NUMBER" = some (.int (4294967295) t)
  c_MOST_AT_ONCE : ∃ t, mg "MOST_AT_ONCE" = some (.int (64) t)
  c_MOST_READERS : ∃ t, mg "MOST_READERS" = some (.int (8) t)
  c_MOST_TOLD : ∃ t, mg "MOST_TOLD" = some (.int (20) t)
  c_MOST_EVER : ∃ t, mg "MOST_EVER" = some (.int (1000000) t)
  c_AS_IT_WAS : ∃ t, mg "AS_IT_WAS" = some (.int (1) t)
  c_A_FALLING : ∃ t, mg "A_FALLING" = some (.int (1) t)
  c_B_RISING : ∃ t, mg "B_RISING" = some (.int (2) t)
  c_B_FALLING : ∃ t, mg "B_FALLING" = some (.int (3) t)
theorem pe_c {X : Cx} {x : Str} {i : Int} {pos : Pos} (hg : Gl X x) (h : ∃ t, X.mg x = some (.int i t)) (hd : (x == ("__debug__" : Str)) = false := by decide) : PE X (.Name x pos) (tC (.int i)) := by
  obtain ⟨t, e⟩ := h
  exact pe_glob hg e ⟨t, rfl⟩ hd
/-! ### the data -/
def tf (t : T) : List (Str × V) := [("owner", .int t.owner), ("a", .int t.a), ("b", .int t.b), ("mask", .int t.mask), ("there", .bl t.there), ("erased", .bl t.erased)]
def rf (r : R) (kp : V) (pl : Addr) : List (Str × V) := [("owner", .int r.owner), ("order", .int r.order), ("lo", .int r.lo), ("hi", .int r.hi), ("kept", kp), ("place", .ref pl)]
def bf (lT : Addr) (n : Int) (dR : Addr) (op : Int) : List (Str × V) := [("things", .ref lT), ("how_many", .int n), ("readers", .ref dR), ("opened", .int op)]
def ThingAt (C : Cl) (H : Hp) (a : Addr) (t : T) : Prop := ∃ dx, H a = some (.ins C.T dx (tf t))
def rowV (x : Thing) : List V := [.int x.id, .int x.a, .int x.b]
/-- the rows l stand at ra -/
structure RowsAt (H : Hp) (ra : List Addr) (l : List Thing) : Prop where
  len : ra.length = l.length
  at_ : ∀ (j : Nat) (a : Addr) (x : Thing), ra[j]? = some a → l[j]? = some x → H a = some (.tup (rowV x))
def KeptAt (lT tl : Addr) (H : Hp) (kp : V) : Option (List Thing) → Prop
  | none => kp = .non
  | some l => ∃ (lk : Addr) (ra : List Addr), kp = .ref lk ∧ lk ≠ lT ∧ lk ≠ tl ∧ H lk = some (.lst (ra.map V.ref)) ∧ RowsAt H ra l
def ReaderAt (C : Cl) (lT tl : Addr) (H : Hp) (a : Addr) (r : R) : Prop := ∃ (dx : Addr) (kp : V) (pl : Addr), H a = some (.ins C.R dx (rf r kp pl)) ∧ H pl = some (.tup [.int r.pn, .int r.pi]) ∧ KeptAt lT tl H kp r.kept
/-- where a board's own objects lie -/
structure Lay where
  B : Addr
  lT : Addr
  dR : Addr
  as : List Addr
  ras : List Addr
def kvsOf (rs : List (Nat × R)) (ras : List Addr) : List (Key × V) := (rs.zip ras).map fun q => ((Sum.inl (q.1.1 : Int) : Key), V.ref q.2)
/-- **the board**: tl is a list that is not its own -/
structure BoardAt (C : Cl) (tl : Addr) (H : Hp) (L : Lay) (b : B) : Prop where
  ob : ∃ dx, H L.B = some (.ins C.B dx (bf L.lT (live 0 b.ts).length L.dR b.op))
  lst : H L.lT = some (.lst (L.as.map V.ref))
  dic : H L.dR = some (.dK (kvsOf b.rs L.ras))
  nt : L.lT ≠ tl
  la : L.as.length = b.ts.length
  lr : L.ras.length = b.rs.length
  nda : L.as.Nodup
  ndr : L.ras.Nodup
  th : ∀ (j : Nat) (a : Addr) (t : T), L.as[j]? = some a → b.ts[j]? = some t → ThingAt C H a t
  rd : ∀ (j : Nat) (a : Addr) (p : Nat × R), L.ras[j]? = some a → b.rs[j]? = some p → ReaderAt C L.lT tl H a p.2
def Foot (L : Lay) (b : Addr) : Prop := b = L.B ∨ b = L.lT ∨ b = L.dR ∨ b ∈ L.as ∨ b ∈ L.ras
/-- what isn't the board's is as it was, and isn't the board's now -/
def Frame (H : Hp) (L : Lay) (H' : Hp) (L' : Lay) : Prop := ∀ b o, H b = some o → ¬ Foot L b → H' b = some o ∧ ¬ Foot L' b
theorem RowsAt.same {H H' : Hp} {ra : List Addr} {l : List Thing} (h : RowsAt H ra l) (s : Same H H') : RowsAt H' ra l := ⟨h.len, fun j a x h1 h2 => s _ _ (h.at_ j a x h1 h2)⟩
/-- all but lists is as it was, and of lists those other than x -/
theorem RowsAt.keep {H H' : Hp} {x : Addr} {ra : List Addr} {l : List Thing} (h : RowsAt H ra l) (hx : ∀ xs, H x ≠ some (.tup xs)) (k : ∀ b o, H b = some o → b ≠ x → H' b = some o) : RowsAt H' ra l :=
  ⟨h.len, fun j a y h1 h2 => k _ _ (h.at_ j a y h1 h2) fun e => hx _ (by rw [← e]; exact h.at_ j a y h1 h2)⟩
theorem KeptAt.keep {lT tl lT' tl' : Addr} {H H' : Hp} {x : Addr} {kp : V} {o : Option (List Thing)} (h : KeptAt lT tl H kp o) (hx : ∀ xs, H x ≠ some (.tup xs)) (hl : x = lT ∨ x = tl ∨ ∀ xs, H x ≠ some (.lst xs)) (k : ∀ b o, H b = some o → b ≠ x → H' b = some o) (e1 : lT' = lT) (e2 : tl' = tl) : KeptAt lT' tl' H' kp o := by
  subst e1 e2
  cases o with
  | none => exact h
  | some l =>
    obtain ⟨lk, ra, e, n1, n2, h1, h2⟩ := h
    refine ⟨lk, ra, e, n1, n2, k _ _ h1 fun q => ?_, h2.keep hx k⟩
    rcases hl with z | z | z
    · exact n1 (q.trans z)
    · exact n2 (q.trans z)
    · rw [← q] at z
      exact z _ h1
theorem ReaderAt.keep {C : Cl} {lT tl : Addr} {H H' : Hp} {x a : Addr} {r : R} (h : ReaderAt C lT tl H a r) (hx : ∀ xs, H x ≠ some (.tup xs)) (hl : x = lT ∨ x = tl ∨ ∀ xs, H x ≠ some (.lst xs)) (hne : a ≠ x) (k : ∀ b o, H b = some o → b ≠ x → H' b = some o) : ReaderAt C lT tl H' a r := by
  obtain ⟨dx, kp, pl, h1, h2, h3⟩ := h
  exact ⟨dx, kp, pl, k _ _ h1 hne, k _ _ h2 (fun q => hx _ (by rw [← q]; exact h2)), h3.keep hx hl k rfl rfl⟩
theorem KeptAt.same {lT tl : Addr} {H H' : Hp} {kp : V} {o : Option (List Thing)} (h : KeptAt lT tl H kp o) (s : Same H H') : KeptAt lT tl H' kp o := by
  cases o with
  | none => exact h
  | some l =>
    obtain ⟨lk, ra, e, n1, n2, h1, h2⟩ := h
    exact ⟨lk, ra, e, n1, n2, s _ _ h1, h2.same s⟩
theorem ReaderAt.same {C : Cl} {lT tl : Addr} {H H' : Hp} {a : Addr} {r : R} (h : ReaderAt C lT tl H a r) (s : Same H H') : ReaderAt C lT tl H' a r := by
  obtain ⟨dx, kp, pl, h1, h2, h3⟩ := h
  exact ⟨dx, kp, pl, s _ _ h1, s _ _ h2, h3.same s⟩
theorem ThingAt.same {C : Cl} {H H' : Hp} {a : Addr} {t : T} (h : ThingAt C H a t) (s : Same H H') : ThingAt C H' a t := by
  obtain ⟨dx, h1⟩ := h
  exact ⟨dx, s _ _ h1⟩
theorem BoardAt.same {C : Cl} {tl : Addr} {H H' : Hp} {L : Lay} {b : B} (h : BoardAt C tl H L b) (s : Same H H') : BoardAt C tl H' L b := by
  obtain ⟨⟨dx, h1⟩, h2, h3, h4, h5, h6, h7, h8, h9, h10⟩ := h
  exact ⟨⟨dx, s _ _ h1⟩, s _ _ h2, s _ _ h3, h4, h5, h6, h7, h8, fun j a t e1 e2 => (h9 j a t e1 e2).same s, fun j a p e1 e2 => (h10 j a p e1 e2).same s⟩
theorem Frame.of_same {H H' : Hp} {L : Lay} (s : Same H H') : Frame H L H' L := fun b o e n => ⟨s _ _ e, n⟩
theorem Frame.trans {H H1 H2 : Hp} {L L1 L2 : Lay} (f : Frame H L H1 L1) (g : Frame H1 L1 H2 L2) : Frame H L H2 L2 := fun b o e n => let ⟨e1, n1⟩ := f b o e n; g b o e1 n1
theorem same_upd {H : Hp} {a : Addr} {o : HO} (h : H a = none) : Same H (upd H a o) := fun b u e => by rw [upd_ne (ne_of_none e h)]; exact e
theorem Same.refl' (H : Hp) : Same H H := fun _ _ e => e
end My
set_option Elab.async false
set_option linter.all false
set_option maxRecDepth 100000
set_option maxHeartbeats 2000000
namespace My
open PySem PySem.Spec PyProof.Rows L2
open Kp200 (Thing key)
def seenB (t : T) (w : Nat) : Bool := !t.erased && (t.owner == w || Nat.testBit t.mask w)
def rk (r : R) (x : Thing) : Int × Int := (((key r.order x).n : Int), (x.id : Int))
def spTInit (C : Cl) : Sp := fun vs H Q _ => ∃ (p dx : Addr) (w a b m : Nat), vs = [.ref p, .int w, .int a, .int b, .int m] ∧ H p = some (.ins C.T dx []) ∧ ∀ H' : Hp, ThingAt C H' p ⟨w, a, b, m, true, false⟩ → (∀ b o, H b = some o → b ≠ p → H' b = some o) → Q .non H'
def spSeen (C : Cl) : Sp := fun vs H Q _ => ∃ (a : Addr) (t : T) (w : Nat), vs = [.ref a, .int w] ∧ ThingAt C H a t ∧ Q (.bl (seenB t w)) H
def spRInit (C : Cl) : Sp := fun vs H Q _ => ∃ (p dx : Addr) (w o lo hi : Nat) (kp : V), vs = [.ref p, .int w, .int o, .int lo, .int hi, kp] ∧ H p = some (.ins C.R dx []) ∧
  ∀ (H' : Hp) (pl : Addr), H' p = some (.ins C.R dx (rf ⟨w, o, lo, hi, none, 0, 0⟩ kp pl)) → H' pl = some (.tup [.int 0, .int 0]) → (∀ b o, H b = some o → b ≠ p → H' b = some o) → Q .non H'
def spRank (C : Cl) : Sp := fun vs H Q _ => ∃ (a ρ dx : Addr) (kp : V) (pl : Addr) (r : R) (x : Thing), vs = [.ref a, .ref ρ] ∧ H a = some (.ins C.R dx (rf r kp pl)) ∧ H ρ = some (.tup (rowV x)) ∧ r.order ≤ 3 ∧ x.a < 4294967296 ∧ x.b < 4294967296 ∧
  ∀ (H' : Hp) (t : Addr), Same H H' → H' t = some (.tup (tupV (rk r x))) → Q (.ref t) H'
def spRange (C : Cl) : Sp := fun vs H Q _ => ∃ (a ρ dx : Addr) (kp : V) (pl : Addr) (r : R) (x : Thing), vs = [.ref a, .ref ρ] ∧ H a = some (.ins C.R dx (rf r kp pl)) ∧ H ρ = some (.tup (rowV x)) ∧ Q (.bl (decide (r.lo ≤ x.a) && decide (x.a ≤ r.hi))) H
def spAhead (C : Cl) : Sp := fun vs H Q _ => ∃ (a ρ dx : Addr) (kp : V) (pl : Addr) (r : R) (x : Thing), vs = [.ref a, .ref ρ] ∧ H a = some (.ins C.R dx (rf r kp pl)) ∧ H pl = some (.tup [.int r.pn, .int r.pi]) ∧ H ρ = some (.tup (rowV x)) ∧ r.order ≤ 3 ∧ x.a < 4294967296 ∧ x.b < 4294967296 ∧
  ∀ H' : Hp, Same H H' → Q (.bl (aheadB r x)) H'
/-- go_before, go_behind: the reader's place is a new one -/
def spGo (C : Cl) (g : R → Thing → R) : Sp := fun vs H Q _ => ∃ (a ρ dx : Addr) (kp : V) (pl : Addr) (r : R) (x : Thing), vs = [.ref a, .ref ρ] ∧ H a = some (.ins C.R dx (rf r kp pl)) ∧ H ρ = some (.tup (rowV x)) ∧ r.order ≤ 3 ∧ x.a < 4294967296 ∧ x.b < 4294967296 ∧
  ∀ (H' : Hp) (pl' : Addr), H' a = some (.ins C.R dx (rf r kp pl')) → H' pl' = some (.tup [.int (g r x).pn, .int (g r x).pi]) → (∀ b o, H b = some o → b ≠ a → H' b = some o) → Q .non H'
section
variable {P : Program} {w : World} {K : PySem.W.Frag} {mg : Str → Option Value} {base : Heap} {C : Cl}
theorem scTI : FnScope ["self", "owner", "a", "b", "mask"] ["self", "owner", "a", "b", "mask"] (defScope sT_init) := ⟨rfl, rfl, rfl, by decide +kernel, rfl, by decide +kernel, by decide +kernel⟩
theorem ok_tinit {f : Addr} {fd : FuncData} (F : Fun K "__init__" "Thing.__init__" sT_init f fd) (T : Txt K mg C) : FnOk P w K mg base CX0 1 f fd ["self", "owner", "a", "b", "mask"] (spTInit C) := by
  refine F.ok scTI (fun vs H Q E h => ?_) (fun cdv A outer s H vs Q E hr h => ?_)
  · obtain ⟨p, dx, w, a, b, m, rfl, _⟩ := h
    rfl
  · obtain ⟨p, dx, w, a, b, m, rfl, hp, k⟩ := h
    refine ⟨_, pss_cons (ps_fld (pv 0) (pv 1) rfl) (pss_cons (ps_fld (pv 0) (pv 2) rfl) (pss_cons (ps_fld (pv 0) (pv 3) rfl) (pss_cons (ps_fld (pv 0) (pv 4) rfl) (pss_cons (ps_fld (pv 0) pe_bl rfl) (pss_one (ps_fld (pv 0) pe_bl rfl)))))), ?_⟩
    refine ⟨_, rfl, _, rfl, p, C.T, dx, [], rfl, hp, T.ct, T.nT_owner, (by show 0 < 1000; decide), ?_⟩
    refine ⟨_, rfl, _, rfl, p, C.T, dx, _, rfl, upd_same, T.ct, T.nT_a, (by show 1 < 1000; decide), ?_⟩
    refine ⟨_, rfl, _, rfl, p, C.T, dx, _, rfl, upd_same, T.ct, T.nT_b, (by show 2 < 1000; decide), ?_⟩
    refine ⟨_, rfl, _, rfl, p, C.T, dx, _, rfl, upd_same, T.ct, T.nT_mask, (by show 3 < 1000; decide), ?_⟩
    refine ⟨_, rfl, p, C.T, dx, _, rfl, upd_same, T.ct, T.nT_there, (by show 4 < 1000; decide), ?_⟩
    refine ⟨_, rfl, p, C.T, dx, _, rfl, upd_same, T.ct, T.nT_erased, (by show 5 < 1000; decide), ?_⟩
    refine k _ ⟨dx, upd_same⟩ fun b o e hb => ?_
    rw [upd_ne hb, upd_ne hb, upd_ne hb, upd_ne hb, upd_ne hb, upd_ne hb]
    exact e
theorem bit_eq (m w : Nat) : decide (V.int (Builtin.bitAnd ((m : Int) / 2 ^ (Int.toNat (w : Int))) 1) = V.int 1) = Nat.testBit m w := by
  rw [bitAnd_m1, Int.toNat_natCast]
  have e : ((m : Int) / 2 ^ w) = ((m / 2 ^ w : Nat) : Int) := by
    rw [Int.natCast_ediv]
    simp
  rw [e, Nat.testBit_eq_decide_div_mod_eq]
  by_cases c : m / 2 ^ w % 2 = 1
  · rw [decide_eq_true c]
    exact decide_eq_true (congrArg V.int (show ((m / 2 ^ w : Nat) : Int) % 2 = 1 by omega))
  · rw [decide_eq_false c]
    exact decide_eq_false fun q => c (by injection q with q; omega)
theorem scSeen : FnScope ["self", "w"] ["self", "w"] (defScope sT_seen_by) := ⟨rfl, rfl, rfl, by decide +kernel, rfl, by decide +kernel, by decide +kernel⟩
theorem ok_seen {f : Addr} {fd : FuncData} (F : Fun K "seen_by" "Thing.seen_by" sT_seen_by f fd) (T : Txt K mg C) : FnOk P w K mg base CX0 1 f fd ["self", "w"] (spSeen C) := by
  refine F.ok scSeen (fun vs H Q E h => ?_) (fun cdv A outer s H vs Q E hr h => ?_)
  · obtain ⟨a, t, w, rfl, _⟩ := h
    rfl
  · obtain ⟨a, t, w, rfl, ⟨dx, ha⟩, k⟩ := h
    refine ⟨_, pss_cons (ps_if (pt_truth (pe_fld (pv 0) rfl) (fun _ => rfl)) (pss_one (ps_ret pe_bl)) pss_nil)
      (pss_one (ps_ret (pe_or (pe_cmpR op_eq (pe_fld (pv 0) rfl) (pv 1) (nomark _)) (pe_one (pe_cmpR op_eq (pe_op op_and (pe_op op_shr (pe_fld (pv 0) rfl) (pv 1)) pe_int) pe_int (nomark _)))))), ?_⟩
    refine ⟨_, rfl, a, C.T, dx, _, _, rfl, ha, T.ct, T.nT_erased, rfl, t.erased, rfl, ?_⟩
    unfold seenB at k
    cases e : t.erased with
    | true =>
      refine iteT ?_
      rw [e] at k
      exact k
    | false =>
      rw [e] at k
      refine iteF ?_
      refine ⟨_, rfl, a, C.T, dx, _, _, rfl, ha, T.ct, T.nT_owner, rfl, _, rfl, rfl, _, rfl, ?_⟩
      have eo : decide (V.int (t.owner : Int) = V.int (w : Int)) = (t.owner == w) := by
        by_cases c : t.owner = w
        · subst c
          simp
        · rw [decide_eq_false (fun q => c (by injection q with q; omega))]
          exact (beq_eq_false_iff_ne.mpr c).symm
      rw [eo]
      cases eo2 : (t.owner == w) with
      | true =>
        refine iteT ?_
        rw [eo2] at k
        exact k
      | false =>
        refine iteF ?_
        rw [eo2] at k
        refine ⟨_, rfl, a, C.T, dx, _, _, rfl, ha, T.ct, T.nT_mask, rfl, _, rfl, _, _, rfl, rfl, (by show (0 : Int) ≤ (w : Int); omega), _, _, rfl, rfl, rfl, ?_⟩
        rw [bit_eq]
        exact k
theorem scRI : FnScope ["self", "owner", "order", "lo", "hi", "kept"] ["self", "owner", "order", "lo", "hi", "kept"] (defScope sR_init) := ⟨rfl, rfl, rfl, by decide +kernel, rfl, by decide +kernel, by decide +kernel⟩
theorem ok_rinit {f : Addr} {fd : FuncData} (F : Fun K "__init__" "Reader.__init__" sR_init f fd) (T : Txt K mg C) : FnOk P w K mg base CX0 1 f fd ["self", "owner", "order", "lo", "hi", "kept"] (spRInit C) := by
  refine F.ok scRI (fun vs H Q E h => ?_) (fun cdv A outer s H vs Q E hr h => ?_)
  · obtain ⟨p, dx, w, o, lo, hi, kp, rfl, _⟩ := h
    rfl
  · obtain ⟨p, dx, w, o, lo, hi, kp, rfl, hp, k⟩ := h
    refine ⟨_, pss_cons (ps_fld (pv 0) (pv 1) rfl) (pss_cons (ps_fld (pv 0) (pv 2) rfl) (pss_cons (ps_fld (pv 0) (pv 3) rfl) (pss_cons (ps_fld (pv 0) (pv 4) rfl) (pss_cons (ps_fld (pv 0) (pv 5) rfl) (pss_one (ps_fld (pv 0) (pe_tup (pa_cons pe_int (pa_cons pe_int pa_nil))) rfl)))))), ?_⟩
    refine ⟨_, rfl, _, rfl, p, C.R, dx, [], rfl, hp, T.cr, T.nR_owner, (by show 0 < 1000; decide), ?_⟩
    refine ⟨_, rfl, _, rfl, p, C.R, dx, _, rfl, upd_same, T.cr, T.nR_order, (by show 1 < 1000; decide), ?_⟩
    refine ⟨_, rfl, _, rfl, p, C.R, dx, _, rfl, upd_same, T.cr, T.nR_lo, (by show 2 < 1000; decide), ?_⟩
    refine ⟨_, rfl, _, rfl, p, C.R, dx, _, rfl, upd_same, T.cr, T.nR_hi, (by show 3 < 1000; decide), ?_⟩
    refine ⟨_, rfl, _, rfl, p, C.R, dx, _, rfl, upd_same, T.cr, T.nR_kept, (by show 4 < 1000; decide), ?_⟩
    refine ⟨(by show 2 ≤ sizeLine; decide), fun t ht => ?_⟩
    have npt : p ≠ t := ne_of_none upd_same ht
    refine ⟨_, rfl, p, C.R, dx, _, rfl, (by rw [upd_ne npt]; exact upd_same), T.cr, T.nR_place, (by show 5 < 1000; decide), ?_⟩
    refine k _ t upd_same (by rw [upd_ne npt.symm]; exact upd_same) fun b o e hb => ?_
    have hbt : b ≠ t := by
      intro q
      rw [q] at e
      rw [upd_ne npt.symm, upd_ne npt.symm, upd_ne npt.symm, upd_ne npt.symm, upd_ne npt.symm, e] at ht
      cases ht
    rw [upd_ne hb, upd_ne hbt, upd_ne hb, upd_ne hb, upd_ne hb, upd_ne hb, upd_ne hb]
    exact e
theorem scRank : FnScope ["self", "row", "number"] ["self", "row"] (defScope sR_rank_of) := ⟨rfl, rfl, rfl, by decide +kernel, rfl, by decide +kernel, by decide +kernel⟩
theorem ok_rank {f : Addr} {fd : FuncData} (F : Fun K "rank_of" "Reader.rank_of" sR_rank_of f fd) (T : Txt K mg C) : FnOk P w K mg base CX0 1 f fd ["self", "row"] (spRank C) := by
  refine F.ok scRank (fun vs H Q E h => ?_) (fun cdv A outer s H vs Q E hr h => ?_)
  · obtain ⟨a, ρ, dx, kp, pl, r, x, rfl, _⟩ := h
    rfl
  · obtain ⟨a, ρ, dx, kp, pl, r, x, rfl, ha, hp, ho, xa, xb, k⟩ := h
    refine ⟨_, pss_cons (ps_set (i := 2) scRank.nd rfl (Or.inl rfl) (pe_ifExp (pt_cmpR op_ge (pe_fld (pv 0) rfl) (pe_c rfl T.c_B_RISING) (nomark _)) (pe_ix ix_tup (pv 1) pe_int (fun _ _ => rfl)) (pe_ix ix_tup (pv 1) pe_int (fun _ _ => rfl))))
      (pss_cons (ps_if (PW.pt (pw_or (pt_cmpR op_eq (pe_fld (pv 0) rfl) (pe_c rfl T.c_A_FALLING) (nomark _)) (pw_or1 (pt_cmpR op_eq (pe_fld (pv 0) rfl) (pe_c rfl T.c_B_FALLING) (nomark _))))) (pss_one (ps_set (i := 2) scRank.nd rfl (Or.inl rfl) (pe_op op_sub (pe_c rfl T.c_LAST_NUMBER) (pv 2)))) pss_nil)
      (pss_one (ps_ret (pe_tup (pa_cons (pv 2) (pa_cons (pe_ix ix_tup (pv 1) pe_int (fun _ _ => rfl)) pa_nil)))))), ?_⟩
    obtain ⟨ow, od, lo, hi, kept, pn, pi⟩ := r
    have ho : od ≤ 3 := ho
    have fin : ∀ n : Int, n = ((key od x).n : Int) → ∀ t, H t = none → Q (.ref t) (upd H t (.tup [.int n, .int x.id])) := fun n en t ht => by
      refine k _ t (same_upd ht) ?_
      rw [upd_same, en]
      rfl
    have hod : od = 0 ∨ od = 1 ∨ od = 2 ∨ od = 3 := by omega
    rcases hod with rfl | rfl | rfl | rfl
    · refine ⟨_, rfl, a, C.R, dx, _, _, rfl, ha, T.cr, T.nR_order, rfl, _, _, rfl, rfl, _, rfl, iteF ?_⟩
      refine ⟨_, rfl, ρ, _, _, _, rfl, rfl, SqT.of hp, rfl, ?_⟩
      refine ⟨_, rfl, a, C.R, dx, _, _, rfl, ha, T.cr, T.nR_order, rfl, rfl, _, rfl, iteF ?_⟩
      refine ⟨_, rfl, a, C.R, dx, _, _, rfl, ha, T.cr, T.nR_order, rfl, rfl, _, rfl, iteF ?_⟩
      refine ⟨_, rfl, _, rfl, ρ, _, _, _, rfl, rfl, SqT.of hp, rfl, (by show 2 ≤ sizeLine; decide), ?_⟩
      exact fin _ rfl
    · refine ⟨_, rfl, a, C.R, dx, _, _, rfl, ha, T.cr, T.nR_order, rfl, _, _, rfl, rfl, _, rfl, iteF ?_⟩
      refine ⟨_, rfl, ρ, _, _, _, rfl, rfl, SqT.of hp, rfl, ?_⟩
      refine ⟨_, rfl, a, C.R, dx, _, _, rfl, ha, T.cr, T.nR_order, rfl, rfl, _, rfl, iteT (iteT ?_)⟩
      refine ⟨_, rfl, _, _, rfl, rfl, ?_⟩
      refine ⟨_, rfl, _, rfl, ρ, _, _, _, rfl, rfl, SqT.of hp, rfl, (by show 2 ≤ sizeLine; decide), ?_⟩
      refine fin _ ?_
      show (4294967295 : Int) - (x.a : Int) = ((4294967296 - 1 - x.a : Nat) : Int)
      omega
    · refine ⟨_, rfl, a, C.R, dx, _, _, rfl, ha, T.cr, T.nR_order, rfl, _, _, rfl, rfl, _, rfl, iteT ?_⟩
      refine ⟨_, rfl, ρ, _, _, _, rfl, rfl, SqT.of hp, rfl, ?_⟩
      refine ⟨_, rfl, a, C.R, dx, _, _, rfl, ha, T.cr, T.nR_order, rfl, rfl, _, rfl, iteF ?_⟩
      refine ⟨_, rfl, a, C.R, dx, _, _, rfl, ha, T.cr, T.nR_order, rfl, rfl, _, rfl, iteF ?_⟩
      refine ⟨_, rfl, _, rfl, ρ, _, _, _, rfl, rfl, SqT.of hp, rfl, (by show 2 ≤ sizeLine; decide), ?_⟩
      exact fin _ rfl
    · refine ⟨_, rfl, a, C.R, dx, _, _, rfl, ha, T.cr, T.nR_order, rfl, _, _, rfl, rfl, _, rfl, iteT ?_⟩
      refine ⟨_, rfl, ρ, _, _, _, rfl, rfl, SqT.of hp, rfl, ?_⟩
      refine ⟨_, rfl, a, C.R, dx, _, _, rfl, ha, T.cr, T.nR_order, rfl, rfl, _, rfl, iteF ?_⟩
      refine ⟨_, rfl, a, C.R, dx, _, _, rfl, ha, T.cr, T.nR_order, rfl, rfl, _, rfl, iteT ?_⟩
      refine ⟨_, rfl, _, _, rfl, rfl, ?_⟩
      refine ⟨_, rfl, _, rfl, ρ, _, _, _, rfl, rfl, SqT.of hp, rfl, (by show 2 ≤ sizeLine; decide), ?_⟩
      refine fin _ ?_
      show (4294967295 : Int) - (x.b : Int) = ((4294967296 - 1 - x.b : Nat) : Int)
      omega
theorem scRange : FnScope ["self", "row"] ["self", "row"] (defScope sR_in_range) := ⟨rfl, rfl, rfl, by decide +kernel, rfl, by decide +kernel, by decide +kernel⟩
theorem ok_range {f : Addr} {fd : FuncData} (F : Fun K "in_range" "Reader.in_range" sR_in_range f fd) (T : Txt K mg C) : FnOk P w K mg base CX0 1 f fd ["self", "row"] (spRange C) := by
  refine F.ok scRange (fun vs H Q E h => ?_) (fun cdv A outer s H vs Q E hr h => ?_)
  · obtain ⟨a, ρ, dx, kp, pl, r, x, rfl, _⟩ := h
    rfl
  · obtain ⟨a, ρ, dx, kp, pl, r, x, rfl, ha, hp, k⟩ := h
    refine ⟨_, pss_one (ps_ret (pe_and (pe_cmpR op_le (pe_fld (pv 0) rfl) (pe_ix ix_tup (pv 1) pe_int (fun _ _ => rfl)) (nomark _)) (pe_one (pe_cmpR op_le (pe_ix ix_tup (pv 1) pe_int (fun _ _ => rfl)) (pe_fld (pv 0) rfl) (nomark _))))), ?_⟩
    refine ⟨_, rfl, a, C.R, dx, _, _, rfl, ha, T.cr, T.nR_lo, rfl, _, rfl, ρ, _, _, _, rfl, rfl, SqT.of hp, rfl, _, _, rfl, rfl, _, rfl, ?_⟩
    have e1 : decide ((r.lo : Int) ≤ (x.a : Int)) = decide (r.lo ≤ x.a) := by
      by_cases c : r.lo ≤ x.a
      · rw [decide_eq_true c]; exact decide_eq_true (by omega)
      · rw [decide_eq_false c]; exact decide_eq_false (by omega)
    have e2 : decide ((x.a : Int) ≤ (r.hi : Int)) = decide (x.a ≤ r.hi) := by
      by_cases c : x.a ≤ r.hi
      · rw [decide_eq_true c]; exact decide_eq_true (by omega)
      · rw [decide_eq_false c]; exact decide_eq_false (by omega)
    rw [e1]
    cases c : decide (r.lo ≤ x.a) with
    | false =>
      rw [c] at k
      exact iteF k
    | true =>
      rw [c] at k
      refine iteT ?_
      refine ⟨_, rfl, ρ, _, _, _, rfl, rfl, SqT.of hp, rfl, _, rfl, a, C.R, dx, _, _, rfl, ha, T.cr, T.nR_hi, rfl, _, _, rfl, rfl, ?_⟩
      show Q (.bl (decide ((x.a : Int) ≤ (r.hi : Int)))) H
      rw [e2]
      exact k
theorem ge_before (r : R) (x : Thing) : HT.lexGe [(rk r x).1, (rk r x).2] [(r.pn : Int), (r.pi : Int)] = aheadB r x := by
  unfold aheadB rk
  rw [HT.lexGe_cons, HT.lexGe_cons]
  show (if (((key r.order x).n : Nat) : Int) = (r.pn : Int) then if (x.id : Int) = (r.pi : Int) then true else decide ((r.pi : Int) ≤ (x.id : Int)) else decide ((r.pn : Int) ≤ (((key r.order x).n : Nat) : Int))) = !Kp200.before (key r.order x) ⟨r.pn, r.pi⟩
  have hid : (key r.order x).id = x.id := rfl
  cases e : Kp200.before (key r.order x) ⟨r.pn, r.pi⟩ with
  | true =>
    rw [before_iff] at e
    have e : (key r.order x).n < r.pn ∨ ((key r.order x).n = r.pn ∧ (key r.order x).id < r.pi) := e
    rw [hid] at e
    by_cases c : (((key r.order x).n : Nat) : Int) = (r.pn : Int)
    · rw [if_pos c, if_neg (by omega)]
      exact decide_eq_false (by omega)
    · rw [if_neg c]
      exact decide_eq_false (by omega)
  | false =>
    rw [before_false] at e
    have e : ¬ ((key r.order x).n < r.pn ∨ ((key r.order x).n = r.pn ∧ (key r.order x).id < r.pi)) := e
    rw [hid] at e
    by_cases c : (((key r.order x).n : Nat) : Int) = (r.pn : Int)
    · rw [if_pos c]
      by_cases c2 : (x.id : Int) = (r.pi : Int)
      · rw [if_pos c2]
        rfl
      · rw [if_neg c2]
        exact decide_eq_true (by omega)
    · rw [if_neg c]
      exact decide_eq_true (by omega)
theorem scAhead : FnScope ["self", "row"] ["self", "row"] (defScope sR_is_ahead) := ⟨rfl, rfl, rfl, by decide +kernel, rfl, by decide +kernel, by decide +kernel⟩
theorem ok_ahead {f g : Addr} {fd fg : FuncData} (F : Fun K "is_ahead" "Reader.is_ahead" sR_is_ahead f fd) (T : Txt K mg C) (G : Fun K "rank_of" "Reader.rank_of" sR_rank_of g fg) (bG : Binds K fg ["self", "row"] []) (mG : Meth K C.R "rank_of" g) : FnOk P w K mg base CX0 2 f fd ["self", "row"] (spAhead C) := by
  have GG : FnOk P w K mg base CX0 1 g fg ["self", "row"] (spRank C) := ok_rank G T
  refine F.ok scAhead (fun vs H Q E h => ?_) (fun cdv A outer s H vs Q E hr h => ?_)
  · obtain ⟨a, ρ, dx, kp, pl, r, x, rfl, _⟩ := h
    rfl
  · obtain ⟨a, ρ, dx, kp, pl, r, x, rfl, ha, hpl, hp, ho, xa, xb, k⟩ := h
    refine ⟨_, pss_one (ps_ret (pe_cmpR (op_geT hr.units0) (pe_meth (pv 0) T.cr mG GG hr bG .nil pass0 (pa_cons (pv 1) pa_nil)) (pe_fld (pv 0) rfl) (nomark _))), ?_⟩
    refine ⟨_, rfl, a, dx, _, rfl, ha, rfl, _, rfl, a, ρ, dx, kp, pl, r, x, rfl, ha, hp, ho, xa, xb, fun H' t sm ht => ?_⟩
    refine ⟨_, rfl, a, C.R, dx, _, _, rfl, sm _ _ ha, T.cr, T.nR_place, rfl, t, pl, [(rk r x).1, (rk r x).2], [(r.pn : Int), (r.pi : Int)], rfl, rfl, SqT.of ht, SqT.of (sm _ _ hpl), ?_⟩
    rw [ge_before]
    exact k H' sm
theorem scBefore : FnScope ["self", "row"] ["self", "row"] (defScope sR_go_before) := ⟨rfl, rfl, rfl, by decide +kernel, rfl, by decide +kernel, by decide +kernel⟩
theorem ok_before {f g : Addr} {fd fg : FuncData} (F : Fun K "go_before" "Reader.go_before" sR_go_before f fd) (T : Txt K mg C) (G : Fun K "rank_of" "Reader.rank_of" sR_rank_of g fg) (bG : Binds K fg ["self", "row"] []) (mG : Meth K C.R "rank_of" g) : FnOk P w K mg base CX0 2 f fd ["self", "row"] (spGo C beforeR) := by
  have GG : FnOk P w K mg base CX0 1 g fg ["self", "row"] (spRank C) := ok_rank G T
  refine F.ok scBefore (fun vs H Q E h => ?_) (fun cdv A outer s H vs Q E hr h => ?_)
  · obtain ⟨a, ρ, dx, kp, pl, r, x, rfl, _⟩ := h
    rfl
  · obtain ⟨a, ρ, dx, kp, pl, r, x, rfl, ha, hp, ho, xa, xb, k⟩ := h
    refine ⟨_, pss_one (ps_fld (pv 0) (pe_meth (pv 0) T.cr mG GG hr bG .nil pass0 (pa_cons (pv 1) pa_nil)) rfl), ?_⟩
    refine ⟨_, rfl, a, dx, _, rfl, ha, rfl, _, rfl, a, ρ, dx, kp, pl, r, x, rfl, ha, hp, ho, xa, xb, fun H' t sm ht => ?_⟩
    refine ⟨_, rfl, a, C.R, dx, _, rfl, sm _ _ ha, T.cr, T.nR_place, (by show 6 < 1000; decide), ?_⟩
    have nat' : t ≠ a := ne_of ht (sm _ _ ha) (by intro z; cases z)
    exact k _ t upd_same (by rw [upd_ne nat']; exact ht) fun b o e hb => by rw [upd_ne hb]; exact sm _ _ e
theorem scBehind : FnScope ["self", "row", "rank"] ["self", "row"] (defScope sR_go_behind) := ⟨rfl, rfl, rfl, by decide +kernel, rfl, by decide +kernel, by decide +kernel⟩
theorem ok_behind {f g : Addr} {fd fg : FuncData} (F : Fun K "go_behind" "Reader.go_behind" sR_go_behind f fd) (T : Txt K mg C) (G : Fun K "rank_of" "Reader.rank_of" sR_rank_of g fg) (bG : Binds K fg ["self", "row"] []) (mG : Meth K C.R "rank_of" g) : FnOk P w K mg base CX0 2 f fd ["self", "row"] (spGo C behindR) := by
  have GG : FnOk P w K mg base CX0 1 g fg ["self", "row"] (spRank C) := ok_rank G T
  refine F.ok scBehind (fun vs H Q E h => ?_) (fun cdv A outer s H vs Q E hr h => ?_)
  · obtain ⟨a, ρ, dx, kp, pl, r, x, rfl, _⟩ := h
    rfl
  · obtain ⟨a, ρ, dx, kp, pl, r, x, rfl, ha, hp, ho, xa, xb, k⟩ := h
    refine ⟨_, pss_cons (ps_set (i := 2) scBehind.nd rfl (Or.inl rfl) (pe_meth (pv 0) T.cr mG GG hr bG .nil pass0 (pa_cons (pv 1) pa_nil)))
      (pss_one (ps_fld (pv 0) (pe_tup (pa_cons (pe_ix ix_tup (pv 2) pe_int (fun _ _ => rfl)) (pa_cons (pe_op op_add (pe_ix ix_tup (pv 2) pe_int (fun _ _ => rfl)) pe_int) pa_nil))) rfl)), ?_⟩
    refine ⟨_, rfl, a, dx, _, rfl, ha, rfl, _, rfl, a, ρ, dx, kp, pl, r, x, rfl, ha, hp, ho, xa, xb, fun H' t sm ht => ?_⟩
    refine ⟨_, rfl, t, _, _, _, rfl, rfl, SqT.of ht, rfl, _, rfl, t, _, _, _, rfl, rfl, SqT.of ht, rfl, _, _, rfl, rfl, (by show 2 ≤ sizeLine; decide), fun q hq => ?_⟩
    have naq : a ≠ q := ne_of_none (sm _ _ ha) hq
    refine ⟨_, rfl, a, C.R, dx, _, rfl, (by rw [upd_ne naq]; exact sm _ _ ha), T.cr, T.nR_place, (by show 6 < 1000; decide), ?_⟩
    refine k _ q upd_same ?_ fun b o e hb => by rw [upd_ne hb, upd_ne (ne_of_none (sm _ _ e) hq)]; exact sm _ _ e
    rw [upd_ne naq.symm, upd_same]
    rfl
end
end My
set_option Elab.async false
set_option linter.all false
set_option maxRecDepth 100000
set_option maxHeartbeats 2000000
namespace My
open PySem PySem.Spec PyProof.Rows L2
open Kp200 (Thing key)
/-! ### apart -/
theorem ne_tb {c1 d1 c2 d2 : Addr} {t : T} {lT dR : Addr} {n op : Int} : HO.ins c1 d1 (tf t) ≠ HO.ins c2 d2 (bf lT n dR op) := by
  intro z
  injection z with _ _ z
  have := congrArg List.length z
  exact absurd (show 6 = 4 from this) (by decide)
theorem ne_rb {c1 d1 c2 d2 : Addr} {r : R} {kp : V} {pl lT dR : Addr} {n op : Int} : HO.ins c1 d1 (rf r kp pl) ≠ HO.ins c2 d2 (bf lT n dR op) := by
  intro z
  injection z with _ _ z
  have := congrArg List.length z
  exact absurd (show 6 = 4 from this) (by decide)
theorem ne_rt {c1 d1 c2 d2 : Addr} {r : R} {kp : V} {pl : Addr} {t : T} : HO.ins c1 d1 (rf r kp pl) ≠ HO.ins c2 d2 (tf t) := by
  intro z
  injection z with _ _ z
  have e := congrArg (fun l => (l[1]?).map Prod.fst) z
  exact absurd (show some ("order" : Str) = some ("a" : Str) from e) (by decide +kernel)
section
variable {C : Cl} {tl : Addr} {H H' : Hp} {L : Lay} {b : B}
theorem BoardAt.thing (h : BoardAt C tl H L b) {i : Nat} {t : T} (ht : b.ts[i]? = some t) : ∃ (a dx : Addr), L.as[i]? = some a ∧ H a = some (.ins C.T dx (tf t)) := by
  have hl := (List.getElem?_eq_some_iff.mp ht).1
  have ha : L.as[i]? = some (L.as[i]'(by rw [h.la]; exact hl)) := List.getElem?_eq_getElem _
  obtain ⟨dx, e⟩ := h.th i _ t ha ht
  exact ⟨_, dx, ha, e⟩
theorem BoardAt.reader (h : BoardAt C tl H L b) {j : Nat} {p : Nat × R} (ht : b.rs[j]? = some p) : ∃ (a : Addr), L.ras[j]? = some a ∧ ReaderAt C L.lT tl H a p.2 := by
  have hl := (List.getElem?_eq_some_iff.mp ht).1
  have ha : L.ras[j]? = some (L.ras[j]'(by rw [h.lr]; exact hl)) := List.getElem?_eq_getElem _
  exact ⟨_, ha, h.rd j _ p ha ht⟩
theorem BoardAt.as_at (h : BoardAt C tl H L b) {a : Addr} (ha : a ∈ L.as) : ∃ (i : Nat) (t : T) (dx : Addr), L.as[i]? = some a ∧ b.ts[i]? = some t ∧ H a = some (.ins C.T dx (tf t)) := by
  obtain ⟨i, hi⟩ := List.getElem?_of_mem ha
  have hl := (List.getElem?_eq_some_iff.mp hi).1
  have ht : b.ts[i]? = some (b.ts[i]'(by rw [← h.la]; exact hl)) := List.getElem?_eq_getElem _
  obtain ⟨dx, e⟩ := h.th i a _ hi ht
  exact ⟨i, _, dx, hi, ht, e⟩
theorem BoardAt.ras_at (h : BoardAt C tl H L b) {a : Addr} (ha : a ∈ L.ras) : ∃ (i : Nat) (p : Nat × R), L.ras[i]? = some a ∧ b.rs[i]? = some p ∧ ReaderAt C L.lT tl H a p.2 := by
  obtain ⟨i, hi⟩ := List.getElem?_of_mem ha
  have hl := (List.getElem?_eq_some_iff.mp hi).1
  have ht : b.rs[i]? = some (b.rs[i]'(by rw [← h.lr]; exact hl)) := List.getElem?_eq_getElem _
  exact ⟨i, _, hi, ht, h.rd i a _ hi ht⟩
/-- thing j is another, and the board's own object is too -/
theorem BoardAt.put (h : BoardAt C tl H L b) {j : Nat} {a : Addr} {t u : T} (hj : L.as[j]? = some a) (ht : b.ts[j]? = some t) (hu : ThingAt C H' a u) (k : ∀ c o, H c = some o → c ≠ a → c ≠ L.B → H' c = some o)
    (hB : ∃ dx, H' L.B = some (.ins C.B dx (bf L.lT (live 0 (b.ts.set j u)).length L.dR b.op))) : BoardAt C tl H' L { b with ts := b.ts.set j u } := by
  obtain ⟨dx, hb⟩ := h.ob
  obtain ⟨da, ha⟩ := h.th j a t hj ht
  refine ⟨hB, k _ _ h.lst (ne_of h.lst ha (by intro z; cases z)) (ne_of h.lst hb (by intro z; cases z)), k _ _ h.dic (ne_of h.dic ha (by intro z; cases z)) (ne_of h.dic hb (by intro z; cases z)), h.nt, ?_, h.lr, h.nda, h.ndr, fun i c v h1 h2 => ?_, fun i c p h1 h2 => ?_⟩
  · show L.as.length = (b.ts.set j u).length
    rw [List.length_set]
    exact h.la
  · have h2 : (b.ts.set j u)[i]? = some v := h2
    by_cases e : j = i
    · subst e
      rw [List.getElem?_set_self (List.getElem?_eq_some_iff.mp ht).1] at h2
      cases h2
      rw [hj] at h1
      cases h1
      exact hu
    · rw [List.getElem?_set_ne e] at h2
      obtain ⟨dc, hc⟩ := h.th i c v h1 h2
      exact ⟨dc, k _ _ hc (fun q => e (nd_ix h.nda hj (by rw [← q]; exact h1))) (ne_of hc hb ne_tb)⟩
  · obtain ⟨dr, kp, pl, h3, h4, h5⟩ := h.rd i c p h1 h2
    refine ⟨dr, kp, pl, k _ _ h3 (ne_of h3 ha ne_rt) (ne_of h3 hb ne_rb), k _ _ h4 (ne_of h4 ha (by intro z; cases z)) (ne_of h4 hb (by intro z; cases z)), ?_⟩
    cases ek : p.2.kept with
    | none => rw [ek] at h5; exact h5
    | some l =>
      rw [ek] at h5
      obtain ⟨lk, ra, e1, n1, n2, g1, g2⟩ := h5
      refine ⟨lk, ra, e1, n1, n2, k _ _ g1 (ne_of g1 ha (by intro z; cases z)) (ne_of g1 hb (by intro z; cases z)), g2.len, fun i' a' x' q1 q2 => ?_⟩
      have q := g2.at_ i' a' x' q1 q2
      exact k _ _ q (ne_of q ha (by intro z; cases z)) (ne_of q hb (by intro z; cases z))
theorem frame_put {a : Addr} (ha : a ∈ L.as) (k : ∀ c o, H c = some o → c ≠ a → c ≠ L.B → H' c = some o) : Frame H L H' L := fun c o e n =>
  ⟨k c o e (fun q => n (.inr (.inr (.inr (.inl (by rw [q]; exact ha)))))) (fun q => n (.inl q)), n⟩
end
theorem live_off : ∀ {l : List T} {k i : Nat} {t u : T}, l[i]? = some t → t.there = true → u.there = false → (live k (l.set i u)).length + 1 = (live k l).length
  | [], k, i, t, u, h, _, _ => by simp at h
  | v :: r, k, 0, t, u, h, ht, hu => by
    have e : v = t := Option.some.inj h
    subst e
    show (live k (u :: r)).length + 1 = _
    rw [live_cons, live_cons, if_pos ht, if_neg (by rw [hu]; exact Bool.false_ne_true)]
    rfl
  | v :: r, k, i + 1, t, u, h, ht, hu => by
    have ih := live_off (k := k + 1) (l := r) (i := i) h ht hu
    show (live k (v :: r.set i u)).length + 1 = _
    rw [live_cons, live_cons]
    split
    · rw [List.length_cons, List.length_cons]
      omega
    · exact ih
theorem live_same : ∀ {l : List T} {k i : Nat} {t u : T}, l[i]? = some t → u.there = t.there → (live k (l.set i u)).length = (live k l).length
  | [], k, i, t, u, h, _ => by simp at h
  | v :: r, k, 0, t, u, h, ht => by
    have e : v = t := Option.some.inj h
    subst e
    show (live k (u :: r)).length = _
    rw [live_cons, live_cons, ht]
    split <;> rfl
  | v :: r, k, i + 1, t, u, h, ht => by
    have ih := live_same (k := k + 1) (l := r) (i := i) h ht
    show (live k (v :: r.set i u)).length = _
    rw [live_cons, live_cons]
    split
    · rw [List.length_cons, List.length_cons, ih]
    · exact ih
/-- what comes behind a call on the board -/
def Post (C : Cl) (tl : Addr) (H : Hp) (L : Lay) (b' : B) (Q : VK) (v : V) : Prop := ∀ (H' : Hp) (L' : Lay), L'.B = L.B → BoardAt C tl H' L' b' → Frame H L H' L' → Q v H'
def spTake (C : Cl) : Sp := fun vs H Q _ => ∃ (B a dB : Addr) (t : T) (lT dR : Addr) (n op : Int), vs = [.ref B, .ref a] ∧ ThingAt C H a t ∧ H B = some (.ins C.B dB (bf lT n dR op)) ∧
  ∀ H' : Hp, ThingAt C H' a { t with there := false } → H' B = some (.ins C.B dB (bf lT (n - 1) dR op)) → (∀ b o, H b = some o → b ≠ a → b ≠ B → H' b = some o) → Q .non H'
def spRefC (C : Cl) : Sp := fun vs H Q _ => ∃ (tl : Addr) (L : Lay) (b : B) (w i : Nat), vs = [.ref L.B, .int w, .int i] ∧ BoardAt C tl H L b ∧ Q (.int (mRef b.ts w i)) H
def spBInit (C : Cl) : Sp := fun vs H Q _ => ∃ (p dx : Addr), vs = [.ref p] ∧ H p = some (.ins C.B dx []) ∧ ∀ (H' : Hp) (lT dR : Addr), H' p = some (.ins C.B dx (bf lT 0 dR 0)) → H' lT = some (.lst []) → H' dR = some (.dK []) → H lT = none → H dR = none → (∀ b o, H b = some o → b ≠ p → H' b = some o) → Q .non H'
def spBegin (C : Cl) : Sp := fun vs H Q _ => ∃ (tl : Addr) (L : Lay) (b : B) (o : HO), vs = [.ref L.B] ∧ BoardAt C tl H L b ∧ H tl = some o ∧ Post C tl H L ⟨[], [], 0⟩ Q (.int 0)
def spAdd (C : Cl) : Sp := fun vs H Q _ => ∃ (tl : Addr) (L : Lay) (b : B) (w x y m : Nat), vs = [.ref L.B, .int w, .int x, .int y, .int m] ∧ BoardAt C tl H L b ∧ Post C tl H L { b with ts := (mAdd b.ts w x y m).1 } Q (.int (mAdd b.ts w x y m).2)
def spChange (C : Cl) : Sp := fun vs H Q _ => ∃ (tl : Addr) (L : Lay) (b : B) (w i x y m : Nat), vs = [.ref L.B, .int w, .int i, .int x, .int y, .int m] ∧ BoardAt C tl H L b ∧ Post C tl H L { b with ts := (mSet b.ts w i x y m).1 } Q (.int (mSet b.ts w i x y m).2)
def spDrop (C : Cl) : Sp := fun vs H Q _ => ∃ (tl : Addr) (L : Lay) (b : B) (w i : Nat), vs = [.ref L.B, .int w, .int i] ∧ BoardAt C tl H L b ∧ Post C tl H L { b with ts := (mDrop b.ts w i).1 } Q (.int (mDrop b.ts w i).2)
def spErase (C : Cl) : Sp := fun vs H Q _ => ∃ (tl : Addr) (L : Lay) (b : B) (w i : Nat), vs = [.ref L.B, .int w, .int i] ∧ BoardAt C tl H L b ∧ (∀ t ∈ b.ts, Good t) ∧ Post C tl H L { b with ts := (mErase b.ts w i).1 } Q (.int (mErase b.ts w i).2)
theorem at_len {α : Type} {xs : List α} {i : Nat} {v : α} (h : xs[i]? = some v) : ¬ ((xs.length : Int) ≤ (i : Int)) := by
  have := (List.getElem?_eq_some_iff.mp h).1
  omega
theorem dec_nat (a b : Nat) : decide (V.int (a : Int) = V.int (b : Int)) = decide (a = b) := by
  by_cases c : a = b
  · subst c; simp
  · rw [decide_eq_false c]
    exact decide_eq_false fun q => c (by injection q with q; omega)
section
variable {P : Program} {w : World} {K : PySem.W.Frag} {mg : Str → Option Value} {base : Heap} {C : Cl}
theorem scTake : FnScope ["self", "thing"] ["self", "thing"] (defScope sB_take_away) := ⟨rfl, rfl, rfl, by decide +kernel, rfl, by decide +kernel, by decide +kernel⟩
theorem ok_take {f : Addr} {fd : FuncData} (F : Fun K "take_away" "Board.take_away" sB_take_away f fd) (T : Txt K mg C) : FnOk P w K mg base CX0 1 f fd ["self", "thing"] (spTake C) := by
  refine F.ok scTake (fun vs H Q E h => ?_) (fun cdv A outer s H vs Q E hr h => ?_)
  · obtain ⟨B, a, dB, t, lT, dR, n, op, rfl, _⟩ := h
    rfl
  · obtain ⟨B, a, dB, t, lT, dR, n, op, rfl, ⟨da, ha⟩, hB, k⟩ := h
    have nab : a ≠ B := ne_of ha hB ne_tb
    refine ⟨_, pss_cons (ps_fld (pv 1) pe_bl rfl) (pss_one (ps_fld (pv 0) (pe_op op_sub (pe_fld (pv 0) rfl) pe_int) rfl)), ?_⟩
    refine ⟨_, rfl, a, C.T, da, _, rfl, ha, T.ct, T.nT_there, (by show 6 < 1000; decide), ?_⟩
    refine ⟨_, rfl, B, C.B, dB, _, _, rfl, (by rw [upd_ne nab.symm]; exact hB), T.cb, T.nB_how_many, rfl, _, _, rfl, rfl, _, rfl, B, C.B, dB, _, rfl, (by rw [upd_ne nab.symm]; exact hB), T.cb, T.nB_how_many, (by show 4 < 1000; decide), ?_⟩
    exact k _ ⟨da, by rw [upd_ne nab]; exact upd_same⟩ upd_same fun b o e h1 h2 => by rw [upd_ne h2, upd_ne h1]; exact e
theorem scRefC : FnScope ["self", "w", "i"] ["self", "w", "i"] (defScope sB_refusal_of_change) := ⟨rfl, rfl, rfl, by decide +kernel, rfl, by decide +kernel, by decide +kernel⟩
theorem ok_refC {f : Addr} {fd : FuncData} (F : Fun K "refusal_of_change" "Board.refusal_of_change" sB_refusal_of_change f fd) (T : Txt K mg C) : FnOk P w K mg base CX0 1 f fd ["self", "w", "i"] (spRefC C) := by
  refine F.ok scRefC (fun vs H Q E h => ?_) (fun cdv A outer s H vs Q E hr h => ?_)
  · obtain ⟨tl, L, b, w, i, rfl, _⟩ := h
    rfl
  · obtain ⟨tl, L, b, w, i, rfl, S, k⟩ := h
    obtain ⟨dB, hB⟩ := S.ob
    refine ⟨_, pss_cons (ps_if (PW.pt (pw_or (pt_cmpR op_ge (pv 2) (pe_callB call_len_seq (by rfl) T.len PySem.boot_len (pa_cons (pe_fld (pv 0) rfl) pa_nil)) (nomark _)) (pw_or1 (pt_not (pt_truth (pe_fld (pe_ix ix_list (pe_fld (pv 0) rfl) (pv 2) (fun _ _ => rfl)) rfl) (fun _ => rfl)))))) (pss_one (ps_ret (pe_c rfl T.c_NOT_FOUND))) pss_nil)
      (pss_cons (ps_if (pt_cmpR op_ne (pe_fld (pe_ix ix_list (pe_fld (pv 0) rfl) (pv 2) (fun _ _ => rfl)) rfl) (pv 1) (nomark _)) (pss_one (ps_ret (pe_c rfl T.c_NOT_THEIRS))) pss_nil)
      (pss_one (ps_ret pe_int))), ?_⟩
    refine ⟨_, rfl, _, rfl, L.B, C.B, dB, _, _, rfl, hB, T.cb, T.nB_things, rfl, L.lT, _, rfl, .inl (SqL.of S.lst), _, _, rfl, rfl, _, rfl, ?_⟩
    rw [List.length_map, S.la]
    unfold mRef at k
    cases e : b.ts[i]? with
    | none =>
      rw [e] at k
      have hl : b.ts.length ≤ i := List.getElem?_eq_none_iff.mp e
      rw [decide_eq_true (show (b.ts.length : Int) ≤ (i : Int) by omega)]
      exact iteT (iteT k)
    | some t =>
      rw [e] at k
      have k : Q (.int (if t.there = false then -2 else if t.owner = w then 0 else -1)) H := k
      obtain ⟨a, da, hia, ha⟩ := S.thing e
      rw [decide_eq_false (at_len e)]
      refine iteF ?_
      have hat : atI (L.as.map V.ref) (i : Int) = some (V.ref a) := atI_nat (by rw [List.getElem?_map, hia]; all_goals rfl)
      refine ⟨_, rfl, L.B, C.B, dB, _, _, rfl, hB, T.cb, T.nB_things, rfl, _, rfl, L.lT, _, _, _, rfl, rfl, SqL.of S.lst, hat, a, C.T, da, _, _, rfl, ha, T.ct, T.nT_there, rfl, t.there, rfl, ?_⟩
      cases et : t.there with
      | false =>
        rw [et] at k
        exact iteT k
      | true =>
        rw [et] at k
        refine iteF ?_
        refine ⟨_, rfl, L.B, C.B, dB, _, _, rfl, hB, T.cb, T.nB_things, rfl, _, rfl, L.lT, _, _, _, rfl, rfl, SqL.of S.lst, hat, a, C.T, da, _, _, rfl, ha, T.ct, T.nT_owner, rfl, _, rfl, rfl, _, rfl, ?_⟩
        rw [if_neg (by decide)] at k
        rw [dec_nat]
        by_cases c : t.owner = w
        · rw [if_pos c] at k
          rw [decide_eq_true c]
          exact iteF k
        · rw [if_neg c] at k
          rw [decide_eq_false c]
          exact iteT k
theorem scBI : FnScope ["self"] ["self"] (defScope sB_init) := ⟨rfl, rfl, rfl, by decide +kernel, rfl, by decide +kernel, by decide +kernel⟩
theorem ok_binit {f : Addr} {fd : FuncData} (F : Fun K "__init__" "Board.__init__" sB_init f fd) (T : Txt K mg C) : FnOk P w K mg base CX0 1 f fd ["self"] (spBInit C) := by
  refine F.ok scBI (fun vs H Q E h => ?_) (fun cdv A outer s H vs Q E hr h => ?_)
  · obtain ⟨p, dx, rfl, _⟩ := h
    rfl
  · obtain ⟨p, dx, rfl, hp, k⟩ := h
    refine ⟨_, pss_cons (ps_fld (pv 0) (pe_lst pa_nil) rfl) (pss_cons (ps_fld (pv 0) pe_int rfl) (pss_cons (ps_fld (pv 0) pe_dnewK rfl) (pss_one (ps_fld (pv 0) pe_int rfl)))), ?_⟩
    refine ⟨Nat.zero_le _, fun l hl => ?_⟩
    have npl : p ≠ l := ne_of_none hp hl
    refine ⟨_, rfl, p, C.B, dx, [], rfl, (by rw [upd_ne npl]; exact hp), T.cb, T.nB_things, (by show 0 < 1000; decide), ?_⟩
    refine ⟨_, rfl, p, C.B, dx, _, rfl, upd_same, T.cb, T.nB_how_many, (by show 1 < 1000; decide), ?_⟩
    intro d hd
    have npd : p ≠ d := ne_of_none upd_same hd
    rw [upd_ne npd.symm, upd_ne npd.symm] at hd
    have nld : l ≠ d := ne_of_none upd_same hd
    rw [upd_ne nld.symm] at hd
    refine ⟨_, rfl, p, C.B, dx, _, rfl, (by rw [upd_ne npd]; exact upd_same), T.cb, T.nB_readers, (by show 2 < 1000; decide), ?_⟩
    refine ⟨_, rfl, p, C.B, dx, _, rfl, upd_same, T.cb, T.nB_opened, (by show 3 < 1000; decide), ?_⟩
    refine k _ l d upd_same ?_ ?_ hl hd fun b o e hb => ?_
    · rw [upd_ne npl.symm, upd_ne npl.symm, upd_ne nld, upd_ne npl.symm, upd_ne npl.symm]
      exact upd_same
    · rw [upd_ne npd.symm, upd_ne npd.symm]
      exact upd_same
    · rw [upd_ne hb, upd_ne hb, upd_ne (ne_of_none e hd), upd_ne hb, upd_ne hb, upd_ne (ne_of_none e hl)]
      exact e
theorem scBegin : FnScope ["self"] ["self"] (defScope sB_begin) := ⟨rfl, rfl, rfl, by decide +kernel, rfl, by decide +kernel, by decide +kernel⟩
theorem ok_begin {f : Addr} {fd : FuncData} (F : Fun K "begin" "Board.begin" sB_begin f fd) (T : Txt K mg C) : FnOk P w K mg base CX0 1 f fd ["self"] (spBegin C) := by
  refine F.ok scBegin (fun vs H Q E h => ?_) (fun cdv A outer s H vs Q E hr h => ?_)
  · obtain ⟨tl, L, b, o, rfl, _⟩ := h
    rfl
  · obtain ⟨tl, L, b, o, rfl, S, ht, k⟩ := h
    obtain ⟨dx, hp⟩ := S.ob
    refine ⟨_, pss_cons (ps_fld (pv 0) (pe_lst pa_nil) rfl) (pss_cons (ps_fld (pv 0) pe_int rfl) (pss_cons (ps_fld (pv 0) pe_dnewK rfl) (pss_cons (ps_fld (pv 0) pe_int rfl) (pss_one (ps_ret pe_int))))), ?_⟩
    refine ⟨Nat.zero_le _, fun l hl => ?_⟩
    have npl : L.B ≠ l := ne_of_none hp hl
    refine ⟨_, rfl, L.B, C.B, dx, _, rfl, (by rw [upd_ne npl]; exact hp), T.cb, T.nB_things, (by show 4 < 1000; decide), ?_⟩
    refine ⟨_, rfl, L.B, C.B, dx, _, rfl, upd_same, T.cb, T.nB_how_many, (by show 4 < 1000; decide), ?_⟩
    intro d hd
    have npd : L.B ≠ d := ne_of_none upd_same hd
    rw [upd_ne npd.symm, upd_ne npd.symm] at hd
    have nld : l ≠ d := ne_of_none upd_same hd
    rw [upd_ne nld.symm] at hd
    refine ⟨_, rfl, L.B, C.B, dx, _, rfl, (by rw [upd_ne npd]; exact upd_same), T.cb, T.nB_readers, (by show 4 < 1000; decide), ?_⟩
    refine ⟨_, rfl, L.B, C.B, dx, _, rfl, upd_same, T.cb, T.nB_opened, (by show 4 < 1000; decide), ?_⟩
    refine k _ ⟨L.B, l, d, [], []⟩ rfl ⟨⟨dx, upd_same⟩, ?_, ?_, (ne_of_none ht hl).symm, rfl, rfl, List.Pairwise.nil, List.Pairwise.nil, fun j a t h1 _ => ?_, fun j a t h1 _ => ?_⟩ fun c u e n => ⟨?_, ?_⟩
    · show _ = some (HO.lst [])
      rw [upd_ne npl.symm, upd_ne npl.symm, upd_ne nld, upd_ne npl.symm, upd_ne npl.symm]
      exact upd_same
    · show _ = some (HO.dK [])
      rw [upd_ne npd.symm, upd_ne npd.symm]
      exact upd_same
    · exact absurd (show ([] : List Addr)[j]? = some a from h1) (by simp)
    · exact absurd (show ([] : List Addr)[j]? = some a from h1) (by simp)
    · have hb : c ≠ L.B := fun q => n (.inl q)
      rw [upd_ne hb, upd_ne hb, upd_ne (ne_of_none e hd), upd_ne hb, upd_ne hb, upd_ne (ne_of_none e hl)]
      exact e
    · rintro (z | z | z | z | z)
      · exact n (.inl z)
      · exact ne_of_none e hl z
      · exact ne_of_none e hd z
      · cases z
      · cases z
end
end My
set_option Elab.async false
set_option linter.all false
set_option maxRecDepth 100000
set_option maxHeartbeats 2000000
namespace My
open PySem PySem.Spec PyProof.Rows L2
open Kp200 (Thing key)
theorem dec_z (a b : Int) : decide (V.int a = V.int b) = decide (a = b) := by
  by_cases c : a = b
  · subst c; simp
  · rw [decide_eq_false c]
    exact decide_eq_false fun q => c (by injection q)
theorem dec_lt (a b : Nat) : decide ((a : Int) < (b : Int)) = decide (a < b) := by
  by_cases c : a < b
  · rw [decide_eq_true c]; exact decide_eq_true (by omega)
  · rw [decide_eq_false c]; exact decide_eq_false (by omega)
theorem dec_le (a b : Nat) : decide ((a : Int) ≤ (b : Int)) = decide (a ≤ b) := by
  by_cases c : a ≤ b
  · rw [decide_eq_true c]; exact decide_eq_true (by omega)
  · rw [decide_eq_false c]; exact decide_eq_false (by omega)
section
variable {C : Cl} {tl : Addr} {H H1 : Hp} {L : Lay} {b : B}
/-- one more thing, at x -/
theorem BoardAt.grow (h : BoardAt C tl H L b) {x : Addr} {u : T} (sm : Same H H1) (hx : H x = none) (hu : ThingAt C H1 x u) {H' : Hp} (hB : ∃ dx, H' L.B = some (.ins C.B dx (bf L.lT (live 0 (b.ts ++ [u])).length L.dR b.op)))
    (hl : H' L.lT = some (.lst ((L.as ++ [x]).map V.ref))) (k : ∀ c o, H1 c = some o → c ≠ L.B → c ≠ L.lT → H' c = some o) : BoardAt C tl H' { L with as := L.as ++ [x] } { b with ts := b.ts ++ [u] } := by
  obtain ⟨dx, hb⟩ := h.ob
  have k2 : ∀ c o, H c = some o → c ≠ L.B → c ≠ L.lT → H' c = some o := fun c o e => k c o (sm c o e)
  obtain ⟨du, hu⟩ := hu
  have nx1 : x ≠ L.B := fun q => by rw [q, hb] at hx; cases hx
  have nx2 : x ≠ L.lT := fun q => by rw [q, h.lst] at hx; cases hx
  refine ⟨hB, hl, k2 _ _ h.dic (ne_of h.dic hb (by intro z; cases z)) (ne_of h.dic h.lst (by intro z; cases z)), h.nt, ?_, h.lr, ?_, h.ndr, fun i c v h1 h2 => ?_, fun i c p h1 h2 => ?_⟩
  · show (L.as ++ [x]).length = (b.ts ++ [u]).length
    rw [List.length_append, List.length_append, h.la]
    rfl
  · refine List.nodup_append.mpr ⟨h.nda, List.nodup_cons.mpr ⟨by simp, List.nodup_nil⟩, fun y hy z hz => ?_⟩
    have hz : z = x := by simpa using hz
    obtain ⟨_, _, _, _, _, q⟩ := h.as_at hy
    rw [hz]
    exact ne_of_none q hx
  · have h1 : (L.as ++ [x])[i]? = some c := h1
    have h2 : (b.ts ++ [u])[i]? = some v := h2
    by_cases hi : i < L.as.length
    · rw [List.getElem?_append_left hi] at h1
      rw [List.getElem?_append_left (by rw [← h.la]; exact hi)] at h2
      obtain ⟨dc, hc⟩ := h.th i c v h1 h2
      exact ⟨dc, k2 _ _ hc (ne_of hc hb ne_tb) (ne_of hc h.lst (by intro z; cases z))⟩
    · rw [List.getElem?_append_right (by omega)] at h1
      rw [List.getElem?_append_right (by rw [← h.la]; omega)] at h2
      have e0 : i - L.as.length = 0 := by
        have := (List.getElem?_eq_some_iff.mp h1).1
        simp at this
        omega
      rw [e0] at h1
      rw [← h.la, e0] at h2
      have h1 : x = c := Option.some.inj h1
      have h2 : u = v := Option.some.inj h2
      subst h1 h2
      exact ⟨du, k _ _ hu nx1 nx2⟩
  · obtain ⟨dr, kp, pl, h3, h4, h5⟩ := h.rd i c p h1 h2
    refine ⟨dr, kp, pl, k2 _ _ h3 (ne_of h3 hb ne_rb) (ne_of h3 h.lst (by intro z; cases z)), k2 _ _ h4 (ne_of h4 hb (by intro z; cases z)) (ne_of h4 h.lst (by intro z; cases z)), ?_⟩
    cases ek : p.2.kept with
    | none => rw [ek] at h5; exact h5
    | some l =>
      rw [ek] at h5
      obtain ⟨lk, ra, e1, n1, n2, g1, g2⟩ := h5
      refine ⟨lk, ra, e1, n1, n2, k2 _ _ g1 (ne_of g1 hb (by intro z; cases z)) n1, g2.len, fun i' a' x' q1 q2 => ?_⟩
      have q := g2.at_ i' a' x' q1 q2
      exact k2 _ _ q (ne_of q hb (by intro z; cases z)) (ne_of q h.lst (by intro z; cases z))
end
section
variable {P : Program} {w : World} {K : PySem.W.Frag} {mg : Str → Option Value} {base : Heap} {C : Cl}
theorem scAdd : FnScope ["self", "w", "a", "b", "mask"] ["self", "w", "a", "b", "mask"] (defScope sB_add) := ⟨rfl, rfl, rfl, by decide +kernel, rfl, by decide +kernel, by decide +kernel⟩
theorem ok_add {f g : Addr} {fd fg : FuncData} (F : Fun K "add" "Board.add" sB_add f fd) (T : Txt K mg C) (M : Mk K C.T g) (G : Fun K "__init__" "Thing.__init__" sT_init g fg) (bG : Binds K fg ["self", "owner", "a", "b", "mask"] []) : FnOk P w K mg base CX0 3 f fd ["self", "w", "a", "b", "mask"] (spAdd C) := by
  have GG : FnOk P w K mg base CX0 1 g fg ["self", "owner", "a", "b", "mask"] (spTInit C) := ok_tinit G T
  refine F.ok scAdd (fun vs H Q E h => ?_) (fun cdv A outer s H vs Q E hr h => ?_)
  · obtain ⟨tl, L, b, w, x, y, m, rfl, _⟩ := h
    rfl
  · obtain ⟨tl, L, b, w, x, y, m, rfl, S, k⟩ := h
    obtain ⟨dB, hB⟩ := S.ob
    refine ⟨_, pss_cons (ps_if (PW.pt (pw_or (pt_cmpR op_gt (pv 1) (pe_c rfl T.c_LAST_PERSON) (nomark _)) (pw_or1 (pt_cmpR op_gt (pv 4) (pe_c rfl T.c_LAST_MASK) (nomark _))))) (pss_one (ps_ret (pe_c rfl T.c_OUT_OF_RANGE))) pss_nil)
      (pss_cons (ps_if (PW.pt (pw_or (pt_cmpR op_ge (pe_fld (pv 0) rfl) (pe_c rfl T.c_MOST_AT_ONCE) (nomark _)) (pw_or1 (pt_cmpR op_ge (pe_callB call_len_seq (by rfl) T.len PySem.boot_len (pa_cons (pe_fld (pv 0) rfl) pa_nil)) (pe_c rfl T.c_MOST_EVER) (nomark _))))) (pss_one (ps_ret (pe_c rfl T.c_NO_ROOM))) pss_nil)
      (pss_cons (ps_expr (pe_bm PySem.F.plainAttrs_list PySem.F.slot_list_append PySem.F.type_list_append mt_append (pe_fld (pv 0) rfl) (pa_cons (pe_make M GG hr rfl T.mgT bG .nil pass0 (pa_cons (pv 1) (pa_cons (pv 2) (pa_cons (pv 3) (pa_cons (pv 4) pa_nil))))) pa_nil)))
      (pss_cons (ps_fld (pv 0) (pe_op op_add (pe_fld (pv 0) rfl) pe_int) rfl)
      (pss_one (ps_ret (pe_op op_sub (pe_callB call_len_seq (by rfl) T.len PySem.boot_len (pa_cons (pe_fld (pv 0) rfl) pa_nil)) pe_int)))))), ?_⟩
    unfold mAdd at k
    have out : (15 < w ∨ 65535 < m) → Q (.int (-22)) H := fun c => by
      rw [if_pos c] at k
      exact k H L rfl S (Frame.of_same (Same.refl' H))
    refine ⟨_, rfl, _, _, rfl, rfl, _, rfl, ?_⟩
    refine ite2 (fun c => iteT (out (.inl (by have := of_decide_eq_true c; omega)))) (fun c1 => ?_)
    have c1 : ¬ 15 < w := fun q => c1 (decide_eq_true (by show (15 : Int) < (w : Int); omega))
    refine ⟨_, rfl, _, _, rfl, rfl, _, rfl, ?_⟩
    refine ite2 (fun c => out (.inr (by have := of_decide_eq_true c; omega))) (fun c2 => ?_)
    have c2 : ¬ 65535 < m := fun q => c2 (decide_eq_true (by show (65535 : Int) < (m : Int); omega))
    rw [if_neg (show ¬ (15 < w ∨ 65535 < m) by omega)] at k
    have room : (64 ≤ (live 0 b.ts).length ∨ 1000000 ≤ b.ts.length) → Q (.int (-28)) H := fun c => by
      rw [if_pos c] at k
      exact k H L rfl S (Frame.of_same (Same.refl' H))
    refine ⟨_, rfl, L.B, C.B, dB, _, _, rfl, hB, T.cb, T.nB_how_many, rfl, _, _, rfl, rfl, _, rfl, ?_⟩
    refine ite2 (fun c => iteT (room (.inl (by have := of_decide_eq_true c; omega)))) (fun c3 => ?_)
    have c3 : ¬ 64 ≤ (live 0 b.ts).length := fun q => c3 (decide_eq_true (by show (64 : Int) ≤ ((live 0 b.ts).length : Int); omega))
    refine ⟨_, rfl, L.B, C.B, dB, _, _, rfl, hB, T.cb, T.nB_things, rfl, L.lT, _, rfl, .inl (SqL.of S.lst), _, _, rfl, rfl, _, rfl, ?_⟩
    rw [List.length_map, S.la]
    refine ite2 (fun c => room (.inr (by have := of_decide_eq_true c; omega))) (fun c4 => ?_)
    have c4 : ¬ 1000000 ≤ b.ts.length := fun q => c4 (decide_eq_true (by show (1000000 : Int) ≤ (b.ts.length : Int); omega))
    rw [if_neg (show ¬ (64 ≤ (live 0 b.ts).length ∨ 1000000 ≤ b.ts.length) by omega)] at k
    refine ⟨_, rfl, L.B, C.B, dB, _, _, rfl, hB, T.cb, T.nB_things, rfl, .inl ⟨rfl, _, SqL.of S.lst⟩, _, rfl, _, rfl, _, rfl, _, rfl, ?_⟩
    intro p dx np ndx nex
    refine ⟨p, dx, w, x, y, m, rfl, upd_same, fun H1 hT kp => ⟨rfl, ?_⟩⟩
    have sm : Same H H1 := Same.made np ndx kp
    have nBl : L.B ≠ L.lT := ne_of hB S.lst (by intro z; cases z)
    refine ⟨L.lT, _, _, rfl, rfl, sm _ _ S.lst, (by rw [List.length_map, S.la]; exact Nat.lt_of_lt_of_le (by omega : b.ts.length < 1000000) (by decide)), ?_⟩
    refine ⟨_, rfl, L.B, C.B, dB, _, _, rfl, (by rw [upd_ne nBl]; exact sm _ _ hB), T.cb, T.nB_how_many, rfl, _, _, rfl, rfl, _, rfl, L.B, C.B, dB, _, rfl, (by rw [upd_ne nBl]; exact sm _ _ hB), T.cb, T.nB_how_many, (by show 4 < 1000; decide), ?_⟩
    refine ⟨_, rfl, L.B, C.B, dB, _, _, rfl, upd_same, T.cb, T.nB_things, rfl, L.lT, _, rfl, .inl (SqL.of (by rw [upd_ne nBl.symm]; exact upd_same)), _, _, rfl, rfl, ?_⟩
    have ev : (((L.as.map V.ref ++ [V.ref p]).length : Nat) : Int) - 1 = (b.ts.length : Int) := by
      rw [List.length_append, List.length_map, S.la]
      show (((b.ts.length + 1 : Nat) : Int)) - 1 = _
      omega
    show Q (.int ((((L.as.map V.ref ++ [V.ref p]).length : Nat) : Int) - 1)) _
    rw [ev]
    refine k _ { L with as := L.as ++ [p] } rfl (S.grow (u := ⟨w, x, y, m, true, false⟩) sm np hT ⟨dB, ?_⟩ ?_ ?_) ?_
    · rw [upd_same, live_snoc _ _ _ rfl, List.length_append]
      rfl
    · rw [upd_ne nBl.symm, upd_same, List.map_append]
      rfl
    · intro c o e n1 n2
      rw [upd_ne n1, upd_ne n2]
      exact e
    · intro c o e n
      refine ⟨?_, ?_⟩
      · rw [upd_ne (fun q => n (.inl q)), upd_ne (fun q => n (.inr (.inl q)))]
        exact sm _ _ e
      · rintro (z | z | z | z | z)
        · exact n (.inl z)
        · exact n (.inr (.inl z))
        · exact n (.inr (.inr (.inl z)))
        · rcases List.mem_append.mp z with z | z
          · exact n (.inr (.inr (.inr (.inl z))))
          · have z : c = p := by simpa using z
            exact ne_of_none e np z
        · exact n (.inr (.inr (.inr (.inr z))))
theorem scChange : FnScope ["self", "w", "i", "a", "b", "mask", "refusal", "thing"] ["self", "w", "i", "a", "b", "mask"] (defScope sB_change) := ⟨rfl, rfl, rfl, by decide +kernel, rfl, by decide +kernel, by decide +kernel⟩
theorem ok_change {f g : Addr} {fd fg : FuncData} (F : Fun K "change" "Board.change" sB_change f fd) (T : Txt K mg C) (G : Fun K "refusal_of_change" "Board.refusal_of_change" sB_refusal_of_change g fg) (bG : Binds K fg ["self", "w", "i"] []) (mG : Meth K C.B "refusal_of_change" g) : FnOk P w K mg base CX0 2 f fd ["self", "w", "i", "a", "b", "mask"] (spChange C) := by
  have GG : FnOk P w K mg base CX0 1 g fg ["self", "w", "i"] (spRefC C) := ok_refC G T
  refine F.ok scChange (fun vs H Q E h => ?_) (fun cdv A outer s H vs Q E hr h => ?_)
  · obtain ⟨tl, L, b, w, i, x, y, m, rfl, _⟩ := h
    rfl
  · obtain ⟨tl, L, b, w, i, x, y, m, rfl, S, k⟩ := h
    obtain ⟨dB, hB⟩ := S.ob
    refine ⟨_, pss_cons (ps_set (i := 6) scChange.nd rfl (Or.inl rfl) (pe_meth (pv 0) T.cb mG GG hr bG .nil pass0 (pa_cons (pv 1) (pa_cons (pv 2) pa_nil))))
      (pss_cons (ps_if (pt_cmpR op_ne (pv 6) pe_int (nomark _)) (pss_one (ps_ret (pv 6))) pss_nil)
      (pss_cons (ps_if (pt_cmpR op_gt (pv 5) (pe_c rfl T.c_LAST_MASK) (nomark _)) (pss_one (ps_ret (pe_c rfl T.c_OUT_OF_RANGE))) pss_nil)
      (pss_cons (ps_set (i := 7) scChange.nd rfl (Or.inl rfl) (pe_ix ix_list (pe_fld (pv 0) rfl) (pv 2) (fun _ _ => rfl)))
      (pss_cons (ps_fld (pv 7) (pv 3) rfl) (pss_cons (ps_fld (pv 7) (pv 4) rfl) (pss_cons (ps_fld (pv 7) (pv 5) rfl) (pss_one (ps_ret pe_int)))))))), ?_⟩
    refine ⟨_, rfl, L.B, dB, _, rfl, hB, rfl, _, rfl, _, rfl, tl, L, b, w, i, rfl, S, ?_⟩
    refine ⟨_, rfl, rfl, _, rfl, ?_⟩
    rw [dec_z]
    unfold mSet at k
    by_cases c : mRef b.ts w i ≠ 0
    · rw [decide_eq_false c]
      rw [if_pos c] at k
      refine iteT ⟨_, rfl, ?_⟩
      exact k H L rfl S (Frame.of_same (Same.refl' H))
    · rw [if_neg c] at k
      have c0 := Decidable.not_not.mp c
      rw [decide_eq_true c0]
      refine iteF ?_
      refine ⟨_, rfl, _, _, rfl, rfl, _, rfl, ?_⟩
      by_cases c2 : 65535 < m
      · rw [if_pos c2] at k
        rw [decide_eq_true (show (65535 : Int) < (m : Int) by omega)]
        exact iteT (k H L rfl S (Frame.of_same (Same.refl' H)))
      · rw [if_neg c2] at k
        rw [decide_eq_false (show ¬ (65535 : Int) < (m : Int) by omega)]
        refine iteF ?_
        obtain ⟨t, ht, h1, h2⟩ := ref_zero c0
        rw [ht] at k
        obtain ⟨a, da, hia, ha⟩ := S.thing ht
        have hat : atI (L.as.map V.ref) (i : Int) = some (V.ref a) := atI_nat (by rw [List.getElem?_map, hia]; all_goals rfl)
        have nab : a ≠ L.B := ne_of ha hB ne_tb
        refine ⟨_, rfl, L.B, C.B, dB, _, _, rfl, hB, T.cb, T.nB_things, rfl, _, rfl, L.lT, _, _, _, rfl, rfl, SqL.of S.lst, hat, ?_⟩
        refine ⟨_, rfl, _, rfl, a, C.T, da, _, rfl, ha, T.ct, T.nT_a, (by show 6 < 1000; decide), ?_⟩
        refine ⟨_, rfl, _, rfl, a, C.T, da, _, rfl, upd_same, T.ct, T.nT_b, (by show 6 < 1000; decide), ?_⟩
        refine ⟨_, rfl, _, rfl, a, C.T, da, _, rfl, upd_same, T.ct, T.nT_mask, (by show 6 < 1000; decide), ?_⟩
        have kk : ∀ (o1 o2 o3 : HO) c o, H c = some o → c ≠ a → c ≠ L.B → (upd (upd (upd H a o1) a o2) a o3) c = some o := fun o1 o2 o3 c o e n1 _ => by rw [upd_ne n1, upd_ne n1, upd_ne n1]; exact e
        refine k _ L rfl (S.put (u := { t with a := x, b := y, mask := m }) hia ht ⟨da, upd_same⟩ (kk _ _ _) ⟨dB, ?_⟩) (frame_put (List.mem_of_getElem? hia) (kk _ _ _))
        rw [upd_ne nab.symm, upd_ne nab.symm, upd_ne nab.symm, live_same (u := { t with a := x, b := y, mask := m }) ht rfl]
        exact hB
theorem scDrop : FnScope ["self", "w", "i", "refusal"] ["self", "w", "i"] (defScope sB_drop) := ⟨rfl, rfl, rfl, by decide +kernel, rfl, by decide +kernel, by decide +kernel⟩
theorem ok_drop {f g t' : Addr} {fd fg ft : FuncData} (F : Fun K "drop" "Board.drop" sB_drop f fd) (T : Txt K mg C) (G : Fun K "refusal_of_change" "Board.refusal_of_change" sB_refusal_of_change g fg) (bG : Binds K fg ["self", "w", "i"] []) (mG : Meth K C.B "refusal_of_change" g)
    (TF : Fun K "take_away" "Board.take_away" sB_take_away t' ft) (bT : Binds K ft ["self", "thing"] []) (mT : Meth K C.B "take_away" t') : FnOk P w K mg base CX0 2 f fd ["self", "w", "i"] (spDrop C) := by
  have GG : FnOk P w K mg base CX0 1 g fg ["self", "w", "i"] (spRefC C) := ok_refC G T
  have GT : FnOk P w K mg base CX0 1 t' ft ["self", "thing"] (spTake C) := ok_take TF T
  refine F.ok scDrop (fun vs H Q E h => ?_) (fun cdv A outer s H vs Q E hr h => ?_)
  · obtain ⟨tl, L, b, w, i, rfl, _⟩ := h
    rfl
  · obtain ⟨tl, L, b, w, i, rfl, S, k⟩ := h
    obtain ⟨dB, hB⟩ := S.ob
    refine ⟨_, pss_cons (ps_set (i := 3) scDrop.nd rfl (Or.inl rfl) (pe_meth (pv 0) T.cb mG GG hr bG .nil pass0 (pa_cons (pv 1) (pa_cons (pv 2) pa_nil))))
      (pss_cons (ps_if (pt_cmpR op_ne (pv 3) pe_int (nomark _)) (pss_one (ps_ret (pv 3))) pss_nil)
      (pss_cons (ps_expr (pe_meth (pv 0) T.cb mT GT hr bT .nil pass0 (pa_cons (pe_ix ix_list (pe_fld (pv 0) rfl) (pv 2) (fun _ _ => rfl)) pa_nil)))
      (pss_one (ps_ret pe_int)))), ?_⟩
    refine ⟨_, rfl, L.B, dB, _, rfl, hB, rfl, _, rfl, _, rfl, tl, L, b, w, i, rfl, S, ?_⟩
    refine ⟨_, rfl, rfl, _, rfl, ?_⟩
    rw [dec_z]
    unfold mDrop at k
    by_cases c : mRef b.ts w i ≠ 0
    · rw [decide_eq_false c]
      rw [if_pos c] at k
      refine iteT ⟨_, rfl, ?_⟩
      exact k H L rfl S (Frame.of_same (Same.refl' H))
    · rw [if_neg c] at k
      have c0 := Decidable.not_not.mp c
      rw [decide_eq_true c0]
      refine iteF ?_
      obtain ⟨t, ht, h1, h2⟩ := ref_zero c0
      rw [ht] at k
      obtain ⟨a, da, hia, ha⟩ := S.thing ht
      have hat : atI (L.as.map V.ref) (i : Int) = some (V.ref a) := atI_nat (by rw [List.getElem?_map, hia]; all_goals rfl)
      refine ⟨_, rfl, L.B, dB, _, rfl, hB, rfl, _, rfl, L.B, C.B, dB, _, _, rfl, hB, T.cb, T.nB_things, rfl, _, rfl, L.lT, _, _, _, rfl, rfl, SqL.of S.lst, hat, ?_⟩
      refine ⟨L.B, a, dB, t, _, _, _, _, rfl, ⟨da, ha⟩, hB, fun H' hT' hB' kk => ?_⟩
      refine k H' L rfl (S.put (u := { t with there := false }) hia ht hT' kk ⟨dB, ?_⟩) (frame_put (List.mem_of_getElem? hia) kk)
      have e := live_off (k := 0) (u := { t with there := false }) ht h1 rfl
      rw [hB', show ((live 0 b.ts).length : Int) - 1 = ((live 0 (b.ts.set i { t with there := false })).length : Int) by omega]
theorem scErase : FnScope ["self", "w", "i", "thing"] ["self", "w", "i"] (defScope sB_erase) := ⟨rfl, rfl, rfl, by decide +kernel, rfl, by decide +kernel, by decide +kernel⟩
theorem ok_erase {f t' : Addr} {fd ft : FuncData} (F : Fun K "erase" "Board.erase" sB_erase f fd) (T : Txt K mg C) (TF : Fun K "take_away" "Board.take_away" sB_take_away t' ft) (bT : Binds K ft ["self", "thing"] []) (mT : Meth K C.B "take_away" t') : FnOk P w K mg base CX0 2 f fd ["self", "w", "i"] (spErase C) := by
  have GT : FnOk P w K mg base CX0 1 t' ft ["self", "thing"] (spTake C) := ok_take TF T
  refine F.ok scErase (fun vs H Q E h => ?_) (fun cdv A outer s H vs Q E hr h => ?_)
  · obtain ⟨tl, L, b, w, i, rfl, _⟩ := h
    rfl
  · obtain ⟨tl, L, b, w, i, rfl, S, gd, k⟩ := h
    obtain ⟨dB, hB⟩ := S.ob
    refine ⟨_, pss_cons (ps_if (pt_cmpR op_ge (pv 2) (pe_callB call_len_seq (by rfl) T.len PySem.boot_len (pa_cons (pe_fld (pv 0) rfl) pa_nil)) (nomark _)) (pss_one (ps_ret (pe_c rfl T.c_NOT_FOUND))) pss_nil)
      (pss_cons (ps_set (i := 3) scErase.nd rfl (Or.inl rfl) (pe_ix ix_list (pe_fld (pv 0) rfl) (pv 2) (fun _ _ => rfl)))
      (pss_cons (ps_if (pt_cmpR op_ne (pe_fld (pv 3) rfl) (pv 1) (nomark _)) (pss_one (ps_ret (pe_c rfl T.c_NOT_THEIRS))) pss_nil)
      (pss_cons (ps_if (pt_truth (pe_fld (pv 3) rfl) (fun _ => rfl)) (pss_one (ps_ret (pe_c rfl T.c_ERASED_BEFORE))) pss_nil)
      (pss_cons (ps_if (pt_truth (pe_fld (pv 3) rfl) (fun _ => rfl)) (pss_one (ps_expr (pe_meth (pv 0) T.cb mT GT hr bT .nil pass0 (pa_cons (pv 3) pa_nil)))) pss_nil)
      (pss_cons (ps_fld (pv 3) pe_bl rfl) (pss_one (ps_ret pe_int))))))), ?_⟩
    refine ⟨_, rfl, _, rfl, L.B, C.B, dB, _, _, rfl, hB, T.cb, T.nB_things, rfl, L.lT, _, rfl, .inl (SqL.of S.lst), _, _, rfl, rfl, _, rfl, ?_⟩
    rw [List.length_map, S.la]
    unfold mErase at k
    cases e : b.ts[i]? with
    | none =>
      rw [e] at k
      have hl : b.ts.length ≤ i := List.getElem?_eq_none_iff.mp e
      rw [decide_eq_true (show (b.ts.length : Int) ≤ (i : Int) by omega)]
      exact iteT (k H L rfl S (Frame.of_same (Same.refl' H)))
    | some t =>
      rw [e] at k
      have k : Post C tl H L { b with ts := (if t.owner ≠ w then (b.ts, (-1 : Int)) else if t.erased = true then (b.ts, -17) else (b.ts.set i { t with there := false, erased := true }, 0)).1 } Q (.int (if t.owner ≠ w then (b.ts, (-1 : Int)) else if t.erased = true then (b.ts, -17) else (b.ts.set i { t with there := false, erased := true }, 0)).2) := k
      obtain ⟨a, da, hia, ha⟩ := S.thing e
      rw [decide_eq_false (at_len e)]
      refine iteF ?_
      have hat : atI (L.as.map V.ref) (i : Int) = some (V.ref a) := atI_nat (by rw [List.getElem?_map, hia]; all_goals rfl)
      refine ⟨_, rfl, L.B, C.B, dB, _, _, rfl, hB, T.cb, T.nB_things, rfl, _, rfl, L.lT, _, _, _, rfl, rfl, SqL.of S.lst, hat, ?_⟩
      refine ⟨_, rfl, a, C.T, da, _, _, rfl, ha, T.ct, T.nT_owner, rfl, _, rfl, rfl, _, rfl, ?_⟩
      rw [dec_nat]
      by_cases c : t.owner ≠ w
      · rw [if_pos c] at k
        rw [decide_eq_false c]
        exact iteT (k H L rfl S (Frame.of_same (Same.refl' H)))
      · rw [if_neg c] at k
        rw [decide_eq_true (Decidable.not_not.mp c)]
        refine iteF ?_
        refine ⟨_, rfl, a, C.T, da, _, _, rfl, ha, T.ct, T.nT_erased, rfl, t.erased, rfl, ?_⟩
        by_cases c2 : t.erased = true
        · rw [if_pos c2] at k
          rw [c2]
          exact iteT (k H L rfl S (Frame.of_same (Same.refl' H)))
        · rw [if_neg c2] at k
          rw [Bool.eq_false_iff.mpr c2]
          refine iteF ?_
          have nab : a ≠ L.B := ne_of ha hB ne_tb
          refine ⟨_, rfl, a, C.T, da, _, _, rfl, ha, T.ct, T.nT_there, rfl, t.there, rfl, ?_⟩
          cases et : t.there with
          | true =>
            refine iteT ?_
            refine ⟨_, rfl, L.B, dB, _, rfl, hB, rfl, _, rfl, ?_⟩
            refine ⟨L.B, a, dB, t, _, _, _, _, rfl, ⟨da, ha⟩, hB, fun H' hT' hB' kk => ?_⟩
            obtain ⟨da', ha'⟩ := hT'
            refine ⟨_, rfl, a, C.T, da', _, rfl, ha', T.ct, T.nT_erased, (by show 6 < 1000; decide), ?_⟩
            have kk2 : ∀ (o1 : HO) c o, H c = some o → c ≠ a → c ≠ L.B → (upd H' a o1) c = some o := fun o1 c o e n1 n2 => by rw [upd_ne n1]; exact kk c o e n1 n2
            refine k _ L rfl (S.put (u := { t with there := false, erased := true }) hia e ⟨da', upd_same⟩ (kk2 _) ⟨dB, ?_⟩) (frame_put (List.mem_of_getElem? hia) (kk2 _))
            have e2 := live_off (k := 0) (u := { t with there := false, erased := true }) e et rfl
            rw [upd_ne nab.symm, hB', show ((live 0 b.ts).length : Int) - 1 = ((live 0 (b.ts.set i { t with there := false, erased := true })).length : Int) by omega]
          | false =>
            refine iteF ?_
            refine ⟨_, rfl, a, C.T, da, _, rfl, ha, T.ct, T.nT_erased, (by show 6 < 1000; decide), ?_⟩
            have kk2 : ∀ (o1 : HO) c o, H c = some o → c ≠ a → c ≠ L.B → (upd H a o1) c = some o := fun o1 c o e n1 n2 => by rw [upd_ne n1]; exact e
            refine k _ L rfl (S.put (u := { t with there := false, erased := true }) hia e ⟨da, ?_⟩ (kk2 _) ⟨dB, ?_⟩) (frame_put (List.mem_of_getElem? hia) (kk2 _))
            · rw [upd_same]
              have et2 : tf { t with there := false, erased := true } = tf { t with erased := true } := by unfold tf; rw [et]
              rw [et2]
              rfl
            · rw [upd_ne nab.symm, live_same e et.symm]
              exact hB
end
end My
set_option Elab.async false
set_option linter.all false
set_option maxRecDepth 100000
set_option maxHeartbeats 2000000
namespace L2
open PySem PySem.Spec PyProof.Rows
/-- a comprehension over enumerate of a list that the block leaves as it is -/
theorem lc_enum {K : PySem.W.Frag} {a : Addr} {xs : List V} {g : TG} {tt : TT} {te : TE} {vs : List Nat} {σ : St} {H1 : Hp} {D : Addr} {Qd : Hp → Prop} (Pv : Nat → Hp → Prop) (h0 : Pv 0 (upd H1 D (.lst []))) (hl : ∀ i H, i ≤ xs.length → Pv i H → SqL K H a xs)
    (hs : ∀ (i : Nat) (x : V) (H : Hp) (t : Addr), xs[i]? = some x → H t = none → Pv i H → g (.ref t) (wipe σ vs) (upd H t (.tup [.int (i : Nat), x])) fun σ2 H2 => wipe σ2 vs = wipe σ vs ∧ tt σ2 H2 fun b H3 =>
      if b = true then te σ2 H3 fun y H4 => ∃ acc, H4 D = some (.lst acc) ∧ acc.length < sizeLine ∧ Pv (i + 1) (upd H4 D (.lst (acc ++ [y]))) else Pv (i + 1) H3) (hd : ∀ H, Pv xs.length H → Qd H) :
    ∃ W : Nat → Nat → Hp → Prop, (∃ m, W 0 m (upd H1 D (.lst []))) ∧ ∀ i m H, W i m H →
      ((Ite K a).stop i H ∧ Qd H) ∨ ((Ite K a).go i H ∧ ∃ Nx : Hp → Prop, (∀ H', Nx H' → ∃ m', m' < m ∧ W (i + 1) m' H') ∧ ∀ x H', (Ite K a).yld i H x H' → g x (wipe σ vs) H' fun σ2 H2 => wipe σ2 vs = wipe σ vs ∧ tt σ2 H2 fun b H3 =>
        if b = true then te σ2 H3 fun y H4 => ∃ acc, H4 D = some (.lst acc) ∧ acc.length < sizeLine ∧ Nx (upd H4 D (.lst (acc ++ [y]))) else Nx H3) := by
  refine ⟨fun i m H => m = xs.length - i ∧ i ≤ xs.length ∧ Pv i H, ⟨xs.length, by simp, Nat.zero_le _, h0⟩, ?_⟩
  rintro i m H ⟨rfl, hi, p⟩
  have q := hl i H hi p
  by_cases hlt : i < xs.length
  · refine .inr ⟨⟨xs, xs[i], q, by simp [hlt]⟩, Pv (i + 1), fun H' p' => ⟨xs.length - (i + 1), by omega, rfl, hlt, p'⟩, fun v H' y => ?_⟩
    obtain ⟨t, x, e1, e2, e3, y⟩ := y
    subst e1 e3
    exact hs i x H t (y xs q) e2 p
  · have e : i = xs.length := by omega
    subst e
    exact .inl ⟨⟨xs, q, Nat.le_refl _⟩, hd H p⟩
end L2
namespace My
open PySem PySem.Spec PyProof.Rows L2
open Kp200 (Thing key before sorted)
theorem live_snoc_no : ∀ (l : List T) (k : Nat) (t : T), t.there = false → live k (l ++ [t]) = live k l
  | [], k, t, h => by
    show live k [t] = []
    rw [live_cons, if_neg (by rw [h]; exact Bool.false_ne_true)]
    rfl
  | u :: r, k, t, h => by
    rw [List.cons_append, live_cons, live_cons, live_snoc_no r (k + 1) t h]
theorem take_snoc' {α : Type} : ∀ {l : List α} {i : Nat} {x : α}, l[i]? = some x → l.take (i + 1) = l.take i ++ [x]
  | [], i, x, h => by simp at h
  | a :: l, 0, x, h => by
    have e : a = x := Option.some.inj h
    subst e
    rfl
  | a :: l, i + 1, x, h => by
    have ih := take_snoc' (l := l) (i := i) (x := x) h
    show a :: l.take (i + 1) = a :: l.take i ++ [x]
    rw [ih]
    rfl
theorem map_ref_at {as : List Addr} {i : Nat} {x : V} (h : (as.map V.ref)[i]? = some x) : ∃ a, as[i]? = some a ∧ x = V.ref a := by
  rw [List.getElem?_map] at h
  cases e : as[i]? with
  | none => rw [e] at h; cases h
  | some a => rw [e] at h; exact ⟨a, rfl, (Option.some.inj h).symm⟩
theorem RowsAt.snoc {H : Hp} {ra : List Addr} {l : List Thing} {q : Addr} {x : Thing} (h : RowsAt H ra l) (hq : H q = some (.tup (rowV x))) : RowsAt H (ra ++ [q]) (l ++ [x]) := by
  refine ⟨by rw [List.length_append, List.length_append, h.len]; rfl, fun j a y h1 h2 => ?_⟩
  by_cases hj : j < ra.length
  · rw [List.getElem?_append_left hj] at h1
    rw [List.getElem?_append_left (by rw [← h.len]; exact hj)] at h2
    exact h.at_ j a y h1 h2
  · rw [List.getElem?_append_right (by omega)] at h1
    rw [List.getElem?_append_right (by rw [← h.len]; omega)] at h2
    have e0 : j - ra.length = 0 := by
      have := (List.getElem?_eq_some_iff.mp h1).1
      simp at this
      omega
    rw [e0] at h1
    rw [← h.len, e0] at h2
    have h1 : q = a := Option.some.inj h1
    have h2 : x = y := Option.some.inj h2
    subst h1 h2
    exact hq
theorem RowsAt.nil {H : Hp} : RowsAt H [] [] := ⟨rfl, fun j a x h _ => by simp at h⟩
/-- a list at D is written: the rows elsewhere stay -/
theorem RowsAt.upd {H : Hp} {D : Addr} {o : HO} {xs : List V} {ra : List Addr} {l : List Thing} (h : RowsAt H ra l) (hD : H D = some (.lst xs)) : RowsAt (L2.upd H D o) ra l :=
  ⟨h.len, fun j a x h1 h2 => by
    have q := h.at_ j a x h1 h2
    rw [upd_ne (ne_of q hD (by intro z; cases z))]
    exact q⟩
def spThere (C : Cl) : Sp := fun vs H Q _ => ∃ (tl : Addr) (L : Lay) (b : B), vs = [.ref L.B] ∧ BoardAt C tl H L b ∧ b.ts.length ≤ 1000000 ∧
  ∀ (H' : Hp) (p : Addr) (ra : List Addr), Same H H' → H p = none → H' p = some (.lst (ra.map V.ref)) → RowsAt H' ra (live 0 b.ts) → Q (.ref p) H'
def spRead (C : Cl) : Sp := fun vs H Q _ => ∃ (tl : Addr) (L : Lay) (b : B) (a : Addr) (r : R), vs = [.ref L.B, .ref a] ∧ BoardAt C tl H L b ∧ BGood b ∧ RGood b.ts.length r ∧ ReaderAt C L.lT tl H a r ∧
  ∀ (H' : Hp) (p : Addr) (ra : List Addr), Same H H' → H p = none → H' p = some (.lst (ra.map V.ref)) → RowsAt H' ra (allOf b.ts r) → Q (.ref p) H'
theorem mil_lt {n : Nat} (h : n ≤ 1000000) : n < sizeLine := Nat.lt_of_le_of_lt h (by decide)
theorem paired_map {α β : Type} {f : α → β} : ∀ l : List α, Paired (fun a b => b = f a) l (l.map f)
  | [] => .nil
  | a :: l => .cons rfl (paired_map l)
theorem of_paired_map {α β : Type} {f : α → β} : ∀ {l : List α} {l' : List β}, Paired (fun a b => b = f a) l l' → l' = l.map f
  | _, _, .nil => rfl
  | _, _, .cons h t => by rw [List.map_cons, of_paired_map t, h]
theorem perm_map_inv {α β : Type} {f : α → β} {l : List α} {ps : List β} (h : ps.Perm (l.map f)) : ∃ qs : List α, qs.Perm l ∧ ps = qs.map f := by
  obtain ⟨qs, h1, h2⟩ := paired_perm h (paired_map (f := f) l)
  exact ⟨qs, h1, of_paired_map h2⟩
theorem zip_maps {α β γ δ : Type} (f : α → γ) (g : β → δ) : ∀ (l : List α) (m : List β), (l.map f).zip (m.map g) = (l.zip m).map fun q => (f q.1, g q.2)
  | [], _ => rfl
  | _ :: _, [] => rfl
  | a :: l, b :: m => by
    show (f a, g b) :: (l.map f).zip (m.map g) = _
    rw [zip_maps f g l m]
    rfl
theorem kLt_before (r : R) (x y : Thing) : kLt (rk r x) (rk r y) = before (key r.order x) (key r.order y) := by
  unfold kLt rk before
  show (decide (((key r.order x).n : Int) < ((key r.order y).n : Int)) || (decide (((key r.order x).n : Int) = ((key r.order y).n : Int)) && decide ((x.id : Int) < (y.id : Int)))) = _
  rw [dec_lt, dec_lt]
  congr 1
  congr 1
  by_cases c : (key r.order x).n = (key r.order y).n
  · rw [c]; simp
  · rw [decide_eq_false (by omega)]
    exact (beq_eq_false_iff_ne.mpr c).symm
theorem mem_zip_at {α β : Type} : ∀ {l : List α} {m : List β} {q : α × β}, q ∈ l.zip m → ∃ i : Nat, l[i]? = some q.1 ∧ m[i]? = some q.2
  | [], _, _, h => by cases h
  | _ :: _, [], _, h => by cases h
  | a :: l, b :: m, q, h => by
    rcases List.mem_cons.mp (show q ∈ (a, b) :: l.zip m from h) with e | h
    · exact ⟨0, by rw [e]; rfl, by rw [e]; rfl⟩
    · obtain ⟨i, h1, h2⟩ := mem_zip_at h
      exact ⟨i + 1, h1, h2⟩
/-- the rows behind a sort -/
theorem rows_sorted {H H' : Hp} {r : R} {ra : List Addr} {l : List Thing} {out : List V} (nd : (l.map (·.id)).Nodup) (h : RowsAt H ra l) (sm : Same H H') (so : SOut (l.map (rk r)) (ra.map V.ref) out) : ∃ ra', out = ra'.map V.ref ∧ RowsAt H' ra' (sorted r.order l) := by
  obtain ⟨ps, hp, e, pw⟩ := so
  rw [zip_maps] at hp
  obtain ⟨qs, hq, rfl⟩ := perm_map_inv hp
  have hz1 : (l.zip ra).map (·.1) = l := List.map_fst_zip (by rw [h.len]; exact Nat.le_refl _)
  have pm : (qs.map (·.1)).Perm l := by
    have := hq.map (·.1)
    rw [hz1] at this
    exact this
  have ndq : ((qs.map (·.1)).map (·.id)).Nodup := (pm.map (·.id)).nodup_iff.mpr nd
  have od : Ord r.order (qs.map (·.1)) := by
    rw [List.pairwise_map] at pw
    rw [List.Nodup, List.map_map, List.pairwise_map] at ndq
    show List.Pairwise _ _
    rw [List.pairwise_map]
    refine (pw.and ndq).imp fun {a b} hab => ?_
    obtain ⟨h1, h2⟩ := hab
    have h1 : kLt (rk r b.1) (rk r a.1) = false := h1
    rw [kLt_before] at h1
    rcases before_total (x := key r.order a.1) (y := key r.order b.1) (fun z => h2 z) with z | z
    · exact z
    · rw [h1] at z
      cases z
  refine ⟨qs.map (·.2), ?_, ?_⟩
  · rw [e, List.map_map, List.map_map]
    rfl
  · rw [← sorted_unique nd od pm]
    refine ⟨by rw [List.length_map, List.length_map], fun j a x h1 h2 => ?_⟩
    rw [List.getElem?_map] at h1 h2
    cases eq : qs[j]? with
    | none => rw [eq] at h1; cases h1
    | some q =>
      rw [eq] at h1 h2
      have h1 : q.2 = a := Option.some.inj h1
      have h2 : q.1 = x := Option.some.inj h2
      obtain ⟨i, g1, g2⟩ := mem_zip_at (hq.mem_iff.mp (List.mem_of_getElem? eq))
      rw [← h1, ← h2]
      exact sm _ _ (h.at_ i q.2 q.1 g2 g1)
section
variable {P : Program} {w : World} {K : PySem.W.Frag} {mg : Str → Option Value} {base : Heap} {C : Cl}
def gThere (K : PySem.W.Frag) : TG := gTup K 2 (gCons (gName 1) (gCons (gName 2) gNil))
def ttThere (K : PySem.W.Frag) : TT := fun σ H Q => tFld K (tVar 2) "there" σ H fun x H' => ∃ k, TruV K x H' k ∧ Q k H'
def teThere (K : PySem.W.Frag) : TE := tTup (tCons (tVar 1) (tCons (tFld K (tVar 2) "a") (tCons (tFld K (tVar 2) "b") tNil)))
theorem scThere : FnScope ["self", "i", "thing"] ["self"] (defScope sB_rows_there) := ⟨rfl, rfl, rfl, by decide +kernel, rfl, by decide +kernel, by decide +kernel⟩
theorem ok_there {f : Addr} {fd : FuncData} (F : Fun K "rows_there" "Board.rows_there" sB_rows_there f fd) (T : Txt K mg C) : FnOk P w K mg base CX0 1 f fd ["self"] (spThere C) := by
  refine F.ok scThere (fun vs H Q E h => ?_) (fun cdv A outer s H vs Q E hr h => ?_)
  · obtain ⟨tl, L, b, rfl, _⟩ := h
    rfl
  · obtain ⟨tl, L, b, rfl, S, hln, k⟩ := h
    obtain ⟨dB, hB⟩ := S.ob
    refine ⟨_, pss_one (ps_ret (pe_lc (own := [("i", 1), ("thing", 2)]) (g := gThere K) (tt := ttThere K) (te := teThere K)
      rfl scThere.nd (pi_enum rfl T.enu (pa_cons (pe_fld (pv 0) rfl) pa_nil)) (show BlkOk ["self", "i", "thing"] (defScope sB_rows_there) _ [("i", 1), ("thing", 2)] from blkOk_by (by decide +kernel))
      (fun _ _ _ _ _ => pg_tup rfl (pgs_cons (pg_name (i := 1) scThere.nd rfl (Or.inl rfl)) (pgs_cons (pg_name (i := 2) scThere.nd rfl (Or.inl rfl)) pgs_nil)))
      (fun _ _ _ _ _ => pts_one (pt_truth (pe_fld (pv 2) rfl) (fun _ => rfl)))
      (fun _ _ _ _ _ => pe_tup (pa_cons (pv 1) (pa_cons (pe_fld (pv 2) rfl) (pa_cons (pe_fld (pv 2) rfl) pa_nil)))))), ?_⟩
    refine ⟨_, rfl, L.B, C.B, dB, _, _, rfl, hB, T.cb, T.nB_things, rfl, L.lT, _, rfl, SqL.of S.lst, fun D hD => ?_⟩
    refine lc_enum (K := K) (a := L.lT) (xs := L.as.map V.ref) (g := gThere K) (tt := ttThere K) (te := teThere K) (vs := [1, 2]) (σ := [some (.ref L.B), none, none]) (H1 := H) (D := D) (Qd := fun H' => Q (.ref D) H') (fun i H' => Same H H' ∧ ∃ ra : List Addr, H' D = some (.lst (ra.map V.ref)) ∧ RowsAt H' ra (live 0 (b.ts.take i)) ∧ ra.length ≤ i) ⟨same_upd hD, [], upd_same, RowsAt.nil, Nat.le_refl _⟩ (fun i H' _ p => SqL.of (p.1 _ _ S.lst)) ?_ ?_
    · intro i x H' t hx ht p
      obtain ⟨a, hia, rfl⟩ := map_ref_at hx
      obtain ⟨sm, ra, hr', rw', hrl⟩ := p
      have hil : i < b.ts.length := by rw [← S.la]; exact (List.getElem?_eq_some_iff.mp hia).1
      have ht' : b.ts[i]? = some b.ts[i] := List.getElem?_eq_getElem hil
      obtain ⟨da, ha⟩ := S.th i a _ hia ht'
      generalize b.ts[i] = u at ht' ha
      have s2 : Same H' (upd H' t (.tup [.int (i : Nat), .ref a])) := same_upd ht
      have ha2 := s2 _ _ (sm _ _ ha)
      refine ⟨t, _, rfl, SqT.of upd_same, rfl, _, _, rfl, _, _, rfl, rfl, rfl, ?_⟩
      refine ⟨_, rfl, a, C.T, da, _, _, rfl, ha2, T.ct, T.nT_there, rfl, u.there, rfl, ?_⟩
      cases et : u.there with
      | false =>
        refine iteF ⟨sm.trans s2, ra, s2 _ _ hr', ?_, Nat.le_succ_of_le hrl⟩
        rw [take_snoc' ht', live_snoc_no _ _ _ et]
        exact rw'.same s2
      | true =>
        refine iteT ?_
        refine ⟨_, rfl, _, rfl, a, C.T, da, _, _, rfl, ha2, T.ct, T.nT_a, rfl, _, rfl, a, C.T, da, _, _, rfl, ha2, T.ct, T.nT_b, rfl, (by show 3 ≤ sizeLine; decide), fun q hq => ?_⟩
        have s3 : Same (upd H' t (.tup [.int (i : Nat), .ref a])) (upd (upd H' t (.tup [.int (i : Nat), .ref a])) q (.tup [.int (i : Nat), .int u.a, .int u.b])) := same_upd hq
        have hD3 := s3 _ _ (s2 _ _ hr')
        refine ⟨_, hD3, (by rw [List.length_map]; exact mil_lt (by omega)), ?_, ra ++ [q], ?_, ?_, ?_⟩
        · intro c o e
          rw [upd_ne (ne_of_none e hD)]
          exact s3 _ _ (s2 _ _ (sm _ _ e))
        · rw [upd_same, List.map_append]
          rfl
        · rw [take_snoc' ht', live_snoc _ _ _ et]
          have e1 : (b.ts.take i).length = i := by rw [List.length_take]; omega
          rw [e1, Nat.zero_add]
          refine (RowsAt.snoc (x := ⟨i, u.a, u.b⟩) ((rw'.same s2).same s3) ?_).upd hD3
          exact upd_same
        · rw [List.length_append]
          show ra.length + 1 ≤ i + 1
          omega
    · intro H' p
      obtain ⟨sm, ra, hr', rw', _⟩ := p
      rw [List.length_map, S.la, List.take_length] at rw'
      exact k H' D ra sm hD hr' rw'
end
end My
set_option Elab.async false
set_option linter.all false
set_option maxRecDepth 100000
set_option maxHeartbeats 4000000
namespace My
open PySem PySem.Spec PyProof.Rows L2
open Kp200 (Thing key before sorted)
def ttRead (K : PySem.W.Frag) (C : Cl) : TT := tAnd (tB (tMeth C.R "in_range" (spRange C) [] E0 (tVar 1) (tCons (tVar 4) tNil))) (tB (tMeth C.T "seen_by" (spSeen C) [] E0 (tOp (rIxL K) (tFld K (tVar 0) "things") (tOp (rIxT K) (tVar 4) (tC (.int 0)))) (tCons (tFld K (tVar 1) "owner") tNil)))
theorem filter_take {α : Type} {l : List α} {i : Nat} {x : α} (p : α → Bool) (h : l[i]? = some x) : (l.take (i + 1)).filter p = (l.take i).filter p ++ if p x = true then [x] else [] := by
  rw [take_snoc' h, List.filter_append, List.filter_cons, List.filter_nil]
theorem sees_at {ts : List T} {i : Nat} {t : T} (h : ts[i]? = some t) (w : Nat) : sees ts w i = seenB t w := by
  unfold sees
  rw [h]
  rfl
section
variable {P : Program} {w : World} {K : PySem.W.Frag} {mg : Str → Option Value} {base : Heap} {C : Cl}
theorem scRead : FnScope ["self", "reader", "rows", "seen", "row"] ["self", "reader"] (defScope sB_rows_read) := ⟨rfl, rfl, rfl, by decide +kernel, rfl, by decide +kernel, by decide +kernel⟩
theorem ok_read {f gT gI gS gR : Addr} {fd fT fI fS fR : FuncData} (F : Fun K "rows_read" "Board.rows_read" sB_rows_read f fd) (T : Txt K mg C)
    (FT : Fun K "rows_there" "Board.rows_there" sB_rows_there gT fT) (bT : Binds K fT ["self"] []) (mT : Meth K C.B "rows_there" gT)
    (FI : Fun K "in_range" "Reader.in_range" sR_in_range gI fI) (bI : Binds K fI ["self", "row"] []) (mI : Meth K C.R "in_range" gI)
    (FS : Fun K "seen_by" "Thing.seen_by" sT_seen_by gS fS) (bS : Binds K fS ["self", "w"] []) (mS : Meth K C.T "seen_by" gS)
    (FR : Fun K "rank_of" "Reader.rank_of" sR_rank_of gR fR) (bR : Binds K fR ["self", "row"] []) (mR : BMeth K C.R "rank_of" gR) : FnOk P w K mg base CX0 4 f fd ["self", "reader"] (spRead C) := by
  have GT : FnOk P w K mg base CX0 1 gT fT ["self"] (spThere C) := ok_there FT T
  have GI : FnOk P w K mg base CX0 1 gI fI ["self", "row"] (spRange C) := ok_range FI T
  have GS : FnOk P w K mg base CX0 1 gS fS ["self", "w"] (spSeen C) := ok_seen FS T
  have GR : FnOk P w K mg base CX0 1 gR fR ["self", "row"] (spRank C) := ok_rank FR T
  refine F.ok scRead (fun vs H Q E h => ?_) (fun cdv A outer s H vs Q E hr h => ?_)
  · obtain ⟨tl, L, b, a, r, rfl, _⟩ := h
    rfl
  · obtain ⟨tl, L, b, a, r, rfl, S, G, g, ⟨dx, kp, pl, ha, hpl, hk⟩, k⟩ := h
    obtain ⟨dB, hB⟩ := S.ob
    have hr1 : Room 1 _ := hr.mono (by decide)
    refine ⟨_, pss_cons (ps_set (i := 2) scRead.nd rfl (Or.inl rfl) (pe_ifExp (pt_cmp (pc_isN (pe_fld (pv 1) rfl))) (pe_meth0 (pv 0) T.cb mT GT hr1 bT .nil pass0) (pe_fld (pv 1) rfl)))
      (pss_cons (ps_setLc (i := 3) (own := [("row", 4)]) (g := gName 4) (tt := ttRead K C) (te := tVar 4) rfl scRead.nd rfl rfl (sw_true rfl rfl rfl (by decide +kernel)) (pi_list (pv 2)) (show BlkOk ["self", "reader", "rows", "seen", "row"] (defScope sB_rows_read) _ [("row", 4)] from blkOk_by (by decide +kernel))
        (fun _ _ _ _ _ => pg_name (i := 4) scRead.nd rfl (Or.inl rfl))
        (fun _ _ _ _ _ => pts_one (PW.pt (pw_and (pt_val (pe_meth (pv 1) T.cr mI GI hr1 bI .nil pass0 (pa_cons (pv 4) pa_nil))) (pw_and1 (pt_val (pe_meth (pe_ix ix_list (pe_fld (pv 0) rfl) (pe_ix ix_tup (pv 4) pe_int (fun _ _ => rfl)) (fun _ _ => rfl)) T.ct mS GS hr1 bS .nil pass0 (pa_cons (pe_fld (pv 1) rfl) pa_nil)))))))
        (fun _ _ _ _ _ => pv 4))
      (pss_one (ps_ret (pe_sortK GR hr bR rfl T.srt (pv 3) (pe_bound (pv 1) T.cr mR rfl))))), ?_⟩
    have ok := rowsOk G g
    -- behind rows = ..
    have main : ∀ (H1 : Hp) (lr : Addr) (ra : List Addr), Same H H1 → H1 lr = some (.lst (ra.map V.ref)) → RowsAt H1 ra (rowsOf b.ts r) →
        tSeq (tAsg (tLc (iList K (tVar 2)) (gName 4) (ttRead K C) (tVar 4) [4]) (gName 3)) (tRet (tSortK K (spRank C) gR (tVar 3) (tBound C.R gR "rank_of" (tVar 1)))) { nx := fun _ H' => Q .non H', rt := Q } [some (.ref L.B), some (.ref a), some (.ref lr), none, none] H1 := by
      intro H1 lr ra s1 hlr rows
      have S1 := S.same s1
      refine ⟨_, rfl, lr, rfl, ⟨_, SqL.of hlr⟩, fun D hD => ?_⟩
      refine lc_list (K := K) (a := lr) (xs := ra.map V.ref) (g := gName 4) (tt := ttRead K C) (te := tVar 4) (vs := [4]) (σ := [some (.ref L.B), some (.ref a), some (.ref lr), none, none]) (H1 := H1) (D := D)
        (fun i H' => Same H1 H' ∧ ∃ ra' : List Addr, H' D = some (.lst (ra'.map V.ref)) ∧ RowsAt H' ra' (((rowsOf b.ts r).take i).filter (readsB b.ts r)) ∧ ra'.length ≤ i) ⟨same_upd hD, [], upd_same, RowsAt.nil, Nat.le_refl _⟩ (fun i H' _ p => SqL.of (p.1 _ _ hlr)) ?_ ?_
      · intro i x H' hx p
        obtain ⟨ρ, hρ, rfl⟩ := map_ref_at hx
        obtain ⟨sm, ra', hD', rw', hrl⟩ := p
        have hil : i < (rowsOf b.ts r).length := by rw [← rows.len]; exact (List.getElem?_eq_some_iff.mp hρ).1
        have hxx : (rowsOf b.ts r)[i]? = some (rowsOf b.ts r)[i] := List.getElem?_eq_getElem hil
        generalize (rowsOf b.ts r)[i] = xx at hxx
        have hrow := sm _ _ (rows.at_ i ρ xx hρ hxx)
        have ha' := sm _ _ (s1 _ _ ha)
        have hB' := sm _ _ (s1 _ _ hB)
        have hxl := (ok.lt xx (List.mem_of_getElem? hxx)).1
        have htt : b.ts[xx.id]? = some b.ts[xx.id] := List.getElem?_eq_getElem hxl
        generalize b.ts[xx.id] = u at htt
        obtain ⟨at', dT, hia, hat⟩ := (S1.same sm).thing htt
        have hix : atI (L.as.map V.ref) (xx.id : Int) = some (V.ref at') := atI_nat (by rw [List.getElem?_map, hia]; all_goals rfl)
        have er : readsB b.ts r xx = ((decide (r.lo ≤ xx.a) && decide (xx.a ≤ r.hi)) && seenB u r.owner) := by
          unfold readsB
          rw [sees_at htt, Bool.and_assoc]
        have no : readsB b.ts r xx = false → Same H1 H' ∧ ∃ ra' : List Addr, H' D = some (.lst (ra'.map V.ref)) ∧ RowsAt H' ra' (((rowsOf b.ts r).take (i + 1)).filter (readsB b.ts r)) ∧ ra'.length ≤ i + 1 := fun e => by
          refine ⟨sm, ra', hD', ?_, Nat.le_succ_of_le hrl⟩
          rw [filter_take _ hxx, if_neg (by rw [e]; exact Bool.false_ne_true), List.append_nil]
          exact rw'
        refine ⟨rfl, ?_⟩
        refine ⟨_, rfl, a, dx, _, rfl, ha', rfl, _, rfl, a, ρ, dx, kp, pl, r, xx, rfl, ha', hrow, _, rfl, ?_⟩
        cases c1 : (decide (r.lo ≤ xx.a) && decide (xx.a ≤ r.hi)) with
        | false => exact iteF (iteF (no (by rw [er, c1]; rfl)))
        | true =>
          refine iteT ?_
          refine ⟨_, rfl, L.B, C.B, dB, _, _, rfl, hB', T.cb, T.nB_things, rfl, _, rfl, ρ, _, _, _, rfl, rfl, SqT.of hrow, rfl, L.lT, _, _, _, rfl, rfl, SqL.of (sm _ _ (s1 _ _ S.lst)), hix, at', dT, _, rfl, hat, rfl, _, rfl, a, C.R, dx, _, _, rfl, ha', T.cr, T.nR_owner, rfl, ?_⟩
          refine ⟨at', u, r.owner, rfl, ⟨dT, hat⟩, _, rfl, ?_⟩
          cases c2 : seenB u r.owner with
          | false => exact iteF (no (by rw [er, c1, c2]; rfl))
          | true =>
            refine iteT ⟨_, rfl, _, hD', (by rw [List.length_map]; exact mil_lt (by have := ok.ln; omega)), ?_, ra' ++ [ρ], ?_, ?_, ?_⟩
            · intro c o e
              rw [upd_ne (ne_of_none e hD)]
              exact sm _ _ e
            · rw [upd_same, List.map_append]
              rfl
            · rw [filter_take _ hxx, if_pos (by rw [er, c1, c2]; rfl)]
              exact (rw'.snoc hrow).upd hD'
            · rw [List.length_append]
              show ra'.length + 1 ≤ i + 1
              omega
      · intro H2 p
        obtain ⟨sm, ra', hD', rw', _⟩ := p
        rw [List.length_map, rows.len, List.take_length] at rw'
        -- return sorted(seen, key=reader.rank_of)
        have ha2 := sm _ _ (s1 _ _ ha)
        refine ⟨_, rfl, _, rfl, a, dx, _, rfl, ha2, rfl, fun q hq => ?_⟩
        have s3 : Same H2 (upd H2 q (.met gR a)) := same_upd hq
        have nd : (((rowsOf b.ts r).filter (readsB b.ts r)).map (·.id)).Nodup := nodup_filter _ ok.nd
        refine ⟨D, q, a, ((rowsOf b.ts r).filter (readsB b.ts r)).map (rk r), ra'.map V.ref, rfl, rfl, upd_same, SqL.of (s3 _ _ hD'), by rw [List.length_map, List.length_map]; exact rw'.len, ?_, ?_⟩
        · intro H3 j row kk Q' s4 h1 h2 h3
          obtain ⟨ρ, hρ, rfl⟩ := map_ref_at h1
          rw [List.getElem?_map] at h2
          cases ex : ((rowsOf b.ts r).filter (readsB b.ts r))[j]? with
          | none => rw [ex] at h2; cases h2
          | some xx =>
            rw [ex] at h2
            have h2 : rk r xx = kk := Option.some.inj h2
            subst h2
            have hb := ok.lt xx (List.mem_filter.mp (List.mem_of_getElem? ex)).1
            exact ⟨a, ρ, dx, kp, pl, r, xx, rfl, s4 _ _ (s3 _ _ ha2), s4 _ _ (s3 _ _ (rw'.at_ j ρ xx hρ ex)), g.od, hb.2.1, hb.2.2, fun H' t z ht => h3 H' t z ht⟩
        · intro H5 p out s5 hp hp5 so
          obtain ⟨ra5, rfl, r5⟩ := rows_sorted nd rw' (s3.trans s5) so
          refine k H5 p ra5 (((s1.trans sm).trans s3).trans s5) ?_ hp5 r5
          exact (((s1.trans sm).trans s3)).free hp
    refine ⟨_, rfl, a, C.R, dx, _, _, rfl, ha, T.cr, T.nR_kept, rfl, _, rfl, ?_⟩
    cases ek : r.kept with
    | none =>
      rw [ek] at hk
      have hk : kp = .non := hk
      subst hk
      refine iteT ?_
      refine ⟨_, rfl, L.B, dB, _, rfl, hB, rfl, tl, L, b, rfl, S, G.ln, fun H1 p ra s1 hp hp1 rows => ?_⟩
      refine main H1 p ra s1 hp1 ?_
      unfold rowsOf
      rw [ek]
      exact rows
    | some l =>
      rw [ek] at hk
      obtain ⟨lk, ra, rfl, n1, n2, h1, h2⟩ := hk
      refine iteF ?_
      refine ⟨_, rfl, a, C.R, dx, _, _, rfl, ha, T.cr, T.nR_kept, rfl, ?_⟩
      refine main H lk ra (Same.refl' H) h1 ?_
      unfold rowsOf
      rw [ek]
      exact h2
end
end My
set_option Elab.async false
set_option linter.all false
set_option maxRecDepth 100000
set_option maxHeartbeats 4000000
namespace My
open PySem PySem.Spec PyProof.Rows L2
open Kp200 (Thing key before sorted)
theorem key_nat {a b : Nat} : ((Sum.inl (a : Int) : Key) = Sum.inl (b : Int)) ↔ a = b := by
  constructor
  · intro e
    injection e with e
    omega
  · intro e
    rw [e]
theorem kv_find : ∀ (rs : List (Nat × R)) (ras : List Addr), ras.length = rs.length → ∀ i : Nat, (findR rs i = none ∧ valV (kvsOf rs ras) (Sum.inl (i : Int) : Key) = none) ∨
    ∃ (j : Nat) (r : R) (ra : Addr), rs[j]? = some (i, r) ∧ ras[j]? = some ra ∧ findR rs i = some r ∧ valV (kvsOf rs ras) (Sum.inl (i : Int) : Key) = some (.ref ra)
  | [], [], _, i => .inl ⟨rfl, rfl⟩
  | [], _ :: _, h, _ => by simp at h
  | _ :: _, [], h, _ => by simp at h
  | p :: rs, a :: ras, h, i => by
    have e : kvsOf (p :: rs) (a :: ras) = ((Sum.inl (p.1 : Int) : Key), V.ref a) :: kvsOf rs ras := rfl
    have e2 : findR (p :: rs) i = if p.1 = i then some p.2 else findR rs i := by
      unfold findR
      rw [List.find?_cons]
      by_cases c : p.1 = i
      · rw [if_pos c, beq_iff_eq.mpr c]
        rfl
      · rw [if_neg c, beq_eq_false_iff_ne.mpr c]
    rw [e, e2]
    by_cases c : p.1 = i
    · subst c
      exact .inr ⟨0, p.2, a, rfl, rfl, if_pos rfl, valV_pos rfl⟩
    · rw [if_neg c, valV_neg (fun q => c (key_nat.mp q))]
      rcases kv_find rs ras (by simpa using h) i with z | ⟨j, r, ra, h1, h2, h3, h4⟩
      · exact .inl z
      · exact .inr ⟨j + 1, r, ra, h1, h2, h3, h4⟩
theorem kvs_snoc : ∀ (rs : List (Nat × R)) (ras : List Addr) (p : Nat × R) (a : Addr), ras.length = rs.length → kvsOf (rs ++ [p]) (ras ++ [a]) = kvsOf rs ras ++ [((Sum.inl (p.1 : Int) : Key), V.ref a)]
  | [], [], p, a, _ => rfl
  | [], _ :: _, _, _, h => by simp at h
  | _ :: _, [], _, _, h => by simp at h
  | q :: rs, c :: ras, p, a, h => by
    show ((Sum.inl (q.1 : Int) : Key), V.ref c) :: kvsOf (rs ++ [p]) (ras ++ [a]) = _
    rw [kvs_snoc rs ras p a (by simpa using h)]
    rfl
/-- the addresses of those that stay -/
def lessA (i : Nat) : List (Nat × R) → List Addr → List Addr
  | p :: rs, a :: ras => if p.1 = i then lessA i rs ras else a :: lessA i rs ras
  | _, _ => []
theorem kvs_drop (i : Nat) : ∀ (rs : List (Nat × R)) (ras : List Addr), dropK (kvsOf rs ras) (Sum.inl (i : Int) : Key) = kvsOf (dropR rs i) (lessA i rs ras)
  | [], _ => rfl
  | _ :: _, [] => by
    show [] = kvsOf _ []
    unfold kvsOf
    rw [List.zip_nil_right]
    rfl
  | p :: rs, a :: ras => by
    have ih := kvs_drop i rs ras
    have e2 : dropR (p :: rs) i = if p.1 = i then dropR rs i else p :: dropR rs i := by
      unfold dropR
      rw [List.filter_cons]
      by_cases c : p.1 = i
      · rw [if_pos c, if_neg (by simp [c])]
      · rw [if_neg c, if_pos (by simpa using c)]
    have e3 : dropK (kvsOf (p :: rs) (a :: ras)) (Sum.inl (i : Int) : Key) = if p.1 = i then dropK (kvsOf rs ras) (Sum.inl (i : Int) : Key) else ((Sum.inl (p.1 : Int) : Key), V.ref a) :: dropK (kvsOf rs ras) (Sum.inl (i : Int) : Key) := by
      show dropK (((Sum.inl (p.1 : Int) : Key), V.ref a) :: kvsOf rs ras) _ = _
      by_cases c : p.1 = i
      · rw [if_pos c, dropK_pos (key_nat.mpr c)]
      · rw [if_neg c, dropK_neg (fun q => c (key_nat.mp q))]
    rw [e2, e3, ih]
    show _ = kvsOf _ (if p.1 = i then lessA i rs ras else a :: lessA i rs ras)
    by_cases c : p.1 = i
    · rw [if_pos c, if_pos c, if_pos c]
    · rw [if_neg c, if_neg c, if_neg c]
      rfl
theorem less_len (i : Nat) : ∀ (rs : List (Nat × R)) (ras : List Addr), ras.length = rs.length → (lessA i rs ras).length = (dropR rs i).length ∧ (lessA i rs ras).Sublist ras ∧
    ∀ (j : Nat) (a : Addr) (p : Nat × R), (lessA i rs ras)[j]? = some a → (dropR rs i)[j]? = some p → ∃ k : Nat, ras[k]? = some a ∧ rs[k]? = some p
  | [], [], _ => ⟨rfl, .slnil, fun j a p h => by simp [lessA] at h⟩
  | [], _ :: _, h => by simp at h
  | _ :: _, [], h => by simp at h
  | p :: rs, a :: ras, h => by
    obtain ⟨h1, h2, h3⟩ := less_len i rs ras (by simpa using h)
    have e2 : dropR (p :: rs) i = if p.1 = i then dropR rs i else p :: dropR rs i := by
      unfold dropR
      rw [List.filter_cons]
      by_cases c : p.1 = i
      · rw [if_pos c, if_neg (by simp [c])]
      · rw [if_neg c, if_pos (by simpa using c)]
    have e3 : lessA i (p :: rs) (a :: ras) = if p.1 = i then lessA i rs ras else a :: lessA i rs ras := rfl
    rw [e2, e3]
    by_cases c : p.1 = i
    · rw [if_pos c, if_pos c]
      exact ⟨h1, .cons _ h2, fun j a' p' g1 g2 => let ⟨k, q1, q2⟩ := h3 j a' p' g1 g2; ⟨k + 1, q1, q2⟩⟩
    · rw [if_neg c, if_neg c]
      refine ⟨by rw [List.length_cons, List.length_cons, h1], .cons₂ _ h2, fun j a' p' g1 g2 => ?_⟩
      cases j with
      | zero => exact ⟨0, g1, g2⟩
      | succ j =>
        obtain ⟨k, q1, q2⟩ := h3 j a' p' g1 g2
        exact ⟨k + 1, q1, q2⟩
def mRefRd (rs : List (Nat × R)) (w i n : Nat) : Int := if mRefR rs w i ≠ 0 then mRefR rs w i else if n < 1 ∨ 20 < n then -22 else 0
def spRefR (C : Cl) : Sp := fun vs H Q _ => ∃ (tl : Addr) (L : Lay) (b : B) (w i : Nat), vs = [.ref L.B, .int w, .int i] ∧ BoardAt C tl H L b ∧ Q (.int (mRefR b.rs w i)) H
def spRefRd (C : Cl) : Sp := fun vs H Q _ => ∃ (tl : Addr) (L : Lay) (b : B) (w i n : Nat), vs = [.ref L.B, .int w, .int i, .int n] ∧ BoardAt C tl H L b ∧ Q (.int (mRefRd b.rs w i n)) H
def spOpen (C : Cl) : Sp := fun vs H Q _ => ∃ (tl : Addr) (L : Lay) (b : B) (o : HO) (w m od lo hi : Nat), vs = [.ref L.B, .int w, .int m, .int od, .int lo, .int hi] ∧ BoardAt C tl H L b ∧ BGood b ∧ H tl = some o ∧ Post C tl H L (mOpen b w m od lo hi).1 Q (.int (mOpen b w m od lo hi).2)
def spClose (C : Cl) : Sp := fun vs H Q _ => ∃ (tl : Addr) (L : Lay) (b : B) (w i : Nat), vs = [.ref L.B, .int w, .int i] ∧ BoardAt C tl H L b ∧ Post C tl H L (mClose b w i).1 Q (.int (mClose b w i).2)
section
variable {P : Program} {w : World} {K : PySem.W.Frag} {mg : Str → Option Value} {base : Heap} {C : Cl}
theorem scRefR : FnScope ["self", "w", "r"] ["self", "w", "r"] (defScope sB_refusal_of_reader) := ⟨rfl, rfl, rfl, by decide +kernel, rfl, by decide +kernel, by decide +kernel⟩
theorem ok_refR {f : Addr} {fd : FuncData} (F : Fun K "refusal_of_reader" "Board.refusal_of_reader" sB_refusal_of_reader f fd) (T : Txt K mg C) : FnOk P w K mg base CX0 1 f fd ["self", "w", "r"] (spRefR C) := by
  refine F.ok scRefR (fun vs H Q E h => ?_) (fun cdv A outer s H vs Q E hr h => ?_)
  · obtain ⟨tl, L, b, w, i, rfl, _⟩ := h
    rfl
  · obtain ⟨tl, L, b, w, i, rfl, S, k⟩ := h
    obtain ⟨dB, hB⟩ := S.ob
    have hu := hu_of hr
    refine ⟨_, pss_cons (ps_if (pt_cmp (pc_dnotin hu (pv 2) (pe_fld (pv 0) rfl))) (pss_one (ps_ret (pe_c rfl T.c_NOT_FOUND))) pss_nil)
      (pss_cons (ps_if (pt_cmpR op_ne (pe_fld (pe_dget hu (pe_fld (pv 0) rfl) (pv 2) (fun _ _ => rfl)) rfl) (pv 1) (nomark _)) (pss_one (ps_ret (pe_c rfl T.c_NOT_THEIRS))) pss_nil)
      (pss_one (ps_ret pe_int))), ?_⟩
    refine ⟨_, rfl, _, rfl, L.B, C.B, dB, _, _, rfl, hB, T.cb, T.nB_readers, rfl, L.dR, _, rfl, DGet.k (k := Sum.inl (i : Int)) S.dic, _, rfl, ?_⟩
    unfold mRefR at k
    rcases kv_find b.rs L.ras S.lr i with ⟨h1, h2⟩ | ⟨j, r, ra, h1, h2, h3, h4⟩
    · rw [h2]
      rw [h1] at k
      exact iteT k
    · rw [h4]
      rw [h3] at k
      have k : Q (.int (if r.owner = w then 0 else -1)) H := k
      refine iteF ?_
      obtain ⟨dr, kp, pl, g1, g2, g3⟩ := S.rd j ra _ h2 h1
      have hg := DGet.k (k := Sum.inl (i : Int)) S.dic
      rw [h4] at hg
      refine ⟨_, rfl, L.B, C.B, dB, _, _, rfl, hB, T.cb, T.nB_readers, rfl, _, rfl, L.dR, _, rfl, hg, ra, C.R, dr, _, _, rfl, g1, T.cr, T.nR_owner, rfl, _, rfl, rfl, _, rfl, ?_⟩
      show if (!decide (V.int (r.owner : Int) = V.int (w : Int))) = true then _ else _
      rw [dec_nat]
      by_cases c : r.owner = w
      · rw [if_pos c] at k
        rw [decide_eq_true c]
        exact iteF k
      · rw [if_neg c] at k
        rw [decide_eq_false c]
        exact iteT k
theorem scRefRd : FnScope ["self", "w", "r", "n", "refusal"] ["self", "w", "r", "n"] (defScope sB_refusal_of_reading) := ⟨rfl, rfl, rfl, by decide +kernel, rfl, by decide +kernel, by decide +kernel⟩
theorem ok_refRd {f g : Addr} {fd fg : FuncData} (F : Fun K "refusal_of_reading" "Board.refusal_of_reading" sB_refusal_of_reading f fd) (T : Txt K mg C) (G : Fun K "refusal_of_reader" "Board.refusal_of_reader" sB_refusal_of_reader g fg) (bG : Binds K fg ["self", "w", "r"] []) (mG : Meth K C.B "refusal_of_reader" g) : FnOk P w K mg base CX0 2 f fd ["self", "w", "r", "n"] (spRefRd C) := by
  have GG : FnOk P w K mg base CX0 1 g fg ["self", "w", "r"] (spRefR C) := ok_refR G T
  refine F.ok scRefRd (fun vs H Q E h => ?_) (fun cdv A outer s H vs Q E hr h => ?_)
  · obtain ⟨tl, L, b, w, i, n, rfl, _⟩ := h
    rfl
  · obtain ⟨tl, L, b, w, i, n, rfl, S, k⟩ := h
    obtain ⟨dB, hB⟩ := S.ob
    refine ⟨_, pss_cons (ps_set (i := 4) scRefRd.nd rfl (Or.inl rfl) (pe_meth (pv 0) T.cb mG GG hr bG .nil pass0 (pa_cons (pv 1) (pa_cons (pv 2) pa_nil))))
      (pss_cons (ps_if (pt_cmpR op_ne (pv 4) pe_int (nomark _)) (pss_one (ps_ret (pv 4))) pss_nil)
      (pss_cons (ps_if (PW.pt (pw_or (pt_cmpR op_lt (pv 3) pe_int (nomark _)) (pw_or1 (pt_cmpR op_gt (pv 3) (pe_c rfl T.c_MOST_TOLD) (nomark _))))) (pss_one (ps_ret (pe_c rfl T.c_OUT_OF_RANGE))) pss_nil)
      (pss_one (ps_ret pe_int)))), ?_⟩
    refine ⟨_, rfl, L.B, dB, _, rfl, hB, rfl, _, rfl, _, rfl, tl, L, b, w, i, rfl, S, ?_⟩
    refine ⟨_, rfl, rfl, _, rfl, ?_⟩
    rw [dec_z]
    unfold mRefRd at k
    by_cases c : mRefR b.rs w i ≠ 0
    · rw [decide_eq_false c]
      rw [if_pos c] at k
      exact iteT ⟨_, rfl, k⟩
    · rw [if_neg c] at k
      rw [decide_eq_true (Decidable.not_not.mp c)]
      refine iteF ?_
      refine ⟨_, rfl, _, _, rfl, rfl, _, rfl, ?_⟩
      by_cases c1 : n < 1
      · rw [if_pos (.inl c1)] at k
        rw [decide_eq_true (show (n : Int) < 1 by omega)]
        exact iteT (iteT k)
      · rw [decide_eq_false (show ¬ (n : Int) < 1 by omega)]
        refine iteF ?_
        refine ⟨_, rfl, _, _, rfl, rfl, _, rfl, ?_⟩
        by_cases c2 : 20 < n
        · rw [if_pos (.inr c2)] at k
          rw [decide_eq_true (show (20 : Int) < (n : Int) by omega)]
          exact iteT k
        · rw [if_neg (by omega)] at k
          rw [decide_eq_false (show ¬ (20 : Int) < (n : Int) by omega)]
          exact iteF k
theorem scClose : FnScope ["self", "w", "r", "refusal"] ["self", "w", "r"] (defScope sB_close_reader) := ⟨rfl, rfl, rfl, by decide +kernel, rfl, by decide +kernel, by decide +kernel⟩
theorem ok_close {f g : Addr} {fd fg : FuncData} (F : Fun K "close_reader" "Board.close_reader" sB_close_reader f fd) (T : Txt K mg C) (G : Fun K "refusal_of_reader" "Board.refusal_of_reader" sB_refusal_of_reader g fg) (bG : Binds K fg ["self", "w", "r"] []) (mG : Meth K C.B "refusal_of_reader" g) : FnOk P w K mg base CX0 2 f fd ["self", "w", "r"] (spClose C) := by
  have GG : FnOk P w K mg base CX0 1 g fg ["self", "w", "r"] (spRefR C) := ok_refR G T
  refine F.ok scClose (fun vs H Q E h => ?_) (fun cdv A outer s H vs Q E hr h => ?_)
  · obtain ⟨tl, L, b, w, i, rfl, _⟩ := h
    rfl
  · obtain ⟨tl, L, b, w, i, rfl, S, k⟩ := h
    obtain ⟨dB, hB⟩ := S.ob
    refine ⟨_, pss_cons (ps_set (i := 3) scClose.nd rfl (Or.inl rfl) (pe_meth (pv 0) T.cb mG GG hr bG .nil pass0 (pa_cons (pv 1) (pa_cons (pv 2) pa_nil))))
      (pss_cons (ps_if (pt_cmpR op_ne (pv 3) pe_int (nomark _)) (pss_one (ps_ret (pv 3))) pss_nil)
      (pss_cons (ps_expr (pe_dpop1 (pe_fld (pv 0) rfl) (pv 2) ⟨rfl, rfl, rfl, rfl⟩))
      (pss_one (ps_ret pe_int)))), ?_⟩
    refine ⟨_, rfl, L.B, dB, _, rfl, hB, rfl, _, rfl, _, rfl, tl, L, b, w, i, rfl, S, ?_⟩
    refine ⟨_, rfl, rfl, _, rfl, ?_⟩
    rw [dec_z]
    unfold mClose at k
    by_cases c : mRefR b.rs w i ≠ 0
    · rw [decide_eq_false c]
      rw [if_pos c] at k
      exact iteT ⟨_, rfl, k H L rfl S (Frame.of_same (Same.refl' H))⟩
    · rw [if_neg c] at k
      rw [decide_eq_true (Decidable.not_not.mp c)]
      refine iteF ?_
      have c0 := Decidable.not_not.mp c
      rcases kv_find b.rs L.ras S.lr i with ⟨h1, h2⟩ | ⟨j, r, ra, h1, h2, h3, h4⟩
      · unfold mRefR at c0
        rw [h1] at c0
        cases c0
      · refine ⟨_, rfl, L.B, C.B, dB, _, _, rfl, hB, T.cb, T.nB_readers, rfl, L.dR, rfl, .inl ⟨_, .inl S.dic⟩, _, rfl, _, Sum.inl (i : Int), _, S.dic, rfl, h4, ?_⟩
        obtain ⟨l1, l2, l3⟩ := less_len i b.rs L.ras S.lr
        have kk : ∀ (o1 : HO) c o, H c = some o → c ≠ L.dR → (upd H L.dR o1) c = some o := fun o1 c o e n => by rw [upd_ne n]; exact e
        have nd : ∀ {c : Addr} {o : HO}, H c = some o → (∀ kvs, o ≠ .dK kvs) → c ≠ L.dR := fun e n q => by rw [q, S.dic] at e; cases e; exact n _ rfl
        refine k _ { L with ras := lessA i b.rs L.ras } rfl ⟨⟨dB, ?_⟩, ?_, ?_, S.nt, S.la, l1, S.nda, List.Nodup.sublist l2 S.ndr, fun j' a' t' g1 g2 => ?_, fun j' a' p' g1 g2 => ?_⟩ ?_
        · rw [upd_ne (nd hB (by intro _ z; cases z))]
          exact hB
        · rw [upd_ne (nd S.lst (by intro _ z; cases z))]
          exact S.lst
        · rw [upd_same, kvs_drop]
        · obtain ⟨dt, e⟩ := S.th j' a' t' g1 g2
          exact ⟨dt, by rw [upd_ne (nd e (by intro _ z; cases z))]; exact e⟩
        · obtain ⟨k', q1, q2⟩ := l3 j' a' p' g1 g2
          have rr := S.rd k' a' p' q1 q2
          have na : a' ≠ L.dR := by
            obtain ⟨d1, kp, pl, z1, _⟩ := id rr
            exact nd z1 (by intro _ z; cases z)
          exact rr.keep (x := L.dR) (by rw [S.dic]; intro xs z; cases z) (.inr (.inr (by rw [S.dic]; intro xs z; cases z))) na (kk _)
        · intro c' o' e n
          refine ⟨kk _ c' o' e fun q => n (.inr (.inr (.inl q))), ?_⟩
          rintro (z | z | z | z | z)
          · exact n (.inl z)
          · exact n (.inr (.inl z))
          · exact n (.inr (.inr (.inl z)))
          · exact n (.inr (.inr (.inr (.inl z))))
          · exact n (.inr (.inr (.inr (.inr (l2.subset z)))))
end
end My
set_option Elab.async false
set_option linter.all false
set_option maxRecDepth 100000
set_option maxHeartbeats 4000000
namespace My
open PySem PySem.Spec PyProof.Rows L2
open Kp200 (Thing key before sorted)
theorem find_new {rs : List (Nat × R)} {n : Nat} (h : ∀ p ∈ rs, p.1 < n) : findR rs n = none := by
  unfold findR
  rw [List.find?_eq_none.mpr fun p hp => ?_]
  · rfl
  · have := h p hp
    simp only [beq_iff_eq]
    omega
section
variable {C : Cl} {tl : Addr} {H H1 H' : Hp} {L : Lay} {b : B}
/-- one more reader, at x -/
theorem BoardAt.opens (h : BoardAt C tl H L b) {x : Addr} {u : R} (sm : Same H H1) (hx : H x = none) (hu : ReaderAt C L.lT tl H1 x u) (hB : ∃ dx, H' L.B = some (.ins C.B dx (bf L.lT (live 0 b.ts).length L.dR ((b.op + 1 : Nat) : Int))))
    (hd : H' L.dR = some (.dK (kvsOf (b.rs ++ [(b.op, u)]) (L.ras ++ [x])))) (k : ∀ c o, H1 c = some o → c ≠ L.B → c ≠ L.dR → H' c = some o) :
    BoardAt C tl H' { L with ras := L.ras ++ [x] } { b with rs := b.rs ++ [(b.op, u)], op := b.op + 1 } := by
  obtain ⟨dx, hb⟩ := h.ob
  have k2 : ∀ c o, H c = some o → c ≠ L.B → c ≠ L.dR → H' c = some o := fun c o e => k c o (sm c o e)
  have hb1 := sm _ _ hb
  have hd1 := sm _ _ h.dic
  have keepR : ∀ {c : Addr} {p : R}, ReaderAt C L.lT tl H1 c p → ReaderAt C L.lT tl H' c p := fun {c p} hr => by
    obtain ⟨dr, kp, pl, h3, h4, h5⟩ := hr
    refine ⟨dr, kp, pl, k _ _ h3 (ne_of h3 hb1 ne_rb) (ne_of h3 hd1 (by intro z; cases z)), k _ _ h4 (ne_of h4 hb1 (by intro z; cases z)) (ne_of h4 hd1 (by intro z; cases z)), ?_⟩
    cases ek : p.kept with
    | none => rw [ek] at h5; exact h5
    | some l =>
      rw [ek] at h5
      obtain ⟨lk, ra, e1, n1, n2, g1, g2⟩ := h5
      refine ⟨lk, ra, e1, n1, n2, k _ _ g1 (ne_of g1 hb1 (by intro z; cases z)) (ne_of g1 hd1 (by intro z; cases z)), g2.len, fun i' a' x' q1 q2 => ?_⟩
      have q := g2.at_ i' a' x' q1 q2
      exact k _ _ q (ne_of q hb1 (by intro z; cases z)) (ne_of q hd1 (by intro z; cases z))
  refine ⟨hB, k2 _ _ h.lst (ne_of h.lst hb (by intro z; cases z)) (ne_of h.lst h.dic (by intro z; cases z)), hd, h.nt, h.la, ?_, h.nda, ?_, fun i c v h1 h2 => ?_, fun i c p h1 h2 => ?_⟩
  · show (L.ras ++ [x]).length = (b.rs ++ [(b.op, u)]).length
    rw [List.length_append, List.length_append, h.lr]
    rfl
  · refine List.nodup_append.mpr ⟨h.ndr, List.nodup_cons.mpr ⟨by simp, List.nodup_nil⟩, fun y hy z hz => ?_⟩
    have hz : z = x := by simpa using hz
    obtain ⟨_, _, _, _, dr, kp, pl, q, _⟩ := h.ras_at hy
    rw [hz]
    exact ne_of_none q hx
  · obtain ⟨dc, hc⟩ := h.th i c v h1 h2
    exact ⟨dc, k2 _ _ hc (ne_of hc hb ne_tb) (ne_of hc h.dic (by intro z; cases z))⟩
  · have h1 : (L.ras ++ [x])[i]? = some c := h1
    have h2 : (b.rs ++ [(b.op, u)])[i]? = some p := h2
    by_cases hi : i < L.ras.length
    · rw [List.getElem?_append_left hi] at h1
      rw [List.getElem?_append_left (by rw [← h.lr]; exact hi)] at h2
      exact keepR ((h.rd i c p h1 h2).same sm)
    · rw [List.getElem?_append_right (by omega)] at h1
      rw [List.getElem?_append_right (by rw [← h.lr]; omega)] at h2
      have e0 : i - L.ras.length = 0 := by
        have := (List.getElem?_eq_some_iff.mp h1).1
        simp at this
        omega
      rw [e0] at h1
      rw [← h.lr, e0] at h2
      have h1 : x = c := Option.some.inj h1
      have h2 : (b.op, u) = p := Option.some.inj h2
      subst h1 h2
      exact keepR hu
/-- a reader's place is another -/
theorem BoardAt.goes (h : BoardAt C tl H L b) (nd : (b.rs.map (·.1)).Nodup) {j i : Nat} {a dx : Addr} {kp : V} {pl' : Addr} {r u : R} (hj : L.ras[j]? = some a) (ht : b.rs[j]? = some (i, r)) (hu : u = { r with pn := u.pn, pi := u.pi }) (hk : KeptAt L.lT tl H kp r.kept)
    (h1 : H' a = some (.ins C.R dx (rf r kp pl'))) (h2 : H' pl' = some (.tup [.int u.pn, .int u.pi])) (k : ∀ c o, H c = some o → c ≠ a → H' c = some o) : BoardAt C tl H' L { b with rs := setR b.rs i u } := by
  obtain ⟨dr, kp0, pl0, ha, _, _⟩ := h.rd j a _ hj ht
  obtain ⟨dB, hB⟩ := h.ob
  have na : ∀ {c : Addr} {o : HO}, H c = some o → (∀ d fs, o ≠ .ins C.R d fs) → c ≠ a := fun e n q => by rw [q, ha] at e; cases e; exact n _ _ rfl
  have nx : ∀ xs, H a ≠ some (.tup xs) := by rw [ha]; intro xs z; cases z
  have nl : a = L.lT ∨ a = tl ∨ ∀ xs, H a ≠ some (.lst xs) := .inr (.inr (by rw [ha]; intro xs z; cases z))
  refine ⟨⟨dB, k _ _ hB (ne_of hB ha (fun z => ne_rb z.symm))⟩, k _ _ h.lst (ne_of h.lst ha (by intro z; cases z)), ?_, h.nt, h.la, ?_, h.nda, h.ndr, fun i' c v g1 g2 => ?_, fun i' c p g1 g2 => ?_⟩
  · rw [k _ _ h.dic (ne_of h.dic ha (by intro z; cases z))]
    show some (HO.dK (kvsOf b.rs L.ras)) = some (HO.dK (kvsOf (setR b.rs i u) L.ras))
    congr 2
    have : ∀ (rs : List (Nat × R)) (ras : List Addr), kvsOf rs ras = kvsOf (setR rs i u) ras := by
      intro rs
      induction rs with
      | nil => intro ras; rfl
      | cons p rs ih =>
        intro ras
        cases ras with
        | nil => show kvsOf (p :: rs) [] = kvsOf _ []; unfold kvsOf; rw [List.zip_nil_right, List.zip_nil_right]
        | cons c ras =>
          show ((Sum.inl (p.1 : Int) : Key), V.ref c) :: kvsOf rs ras = ((Sum.inl ((if p.1 = i then (p.1, u) else p).1 : Int) : Key), V.ref c) :: kvsOf (setR rs i u) ras
          rw [← ih ras]
          have e : (if p.1 = i then (p.1, u) else p).1 = p.1 := by split <;> rfl
          rw [e]
    exact this _ _
  · show L.ras.length = (setR b.rs i u).length
    unfold setR
    rw [List.length_map]
    exact h.lr
  · obtain ⟨dc, hc⟩ := h.th i' c v g1 g2
    exact ⟨dc, k _ _ hc (ne_of hc ha (fun z => ne_rt z.symm))⟩
  · have g2 : (setR b.rs i u)[i']? = some p := g2
    unfold setR at g2
    rw [List.getElem?_map] at g2
    cases eq : b.rs[i']? with
    | none => rw [eq] at g2; cases g2
    | some q =>
      rw [eq] at g2
      have g2 : (if q.1 = i then (q.1, u) else q) = p := Option.some.inj g2
      by_cases e : j = i'
      · subst e
        rw [ht] at eq
        cases eq
        rw [if_pos rfl] at g2
        subst g2
        rw [hj] at g1
        cases g1
        refine ⟨dx, kp, pl', ?_, h2, ?_⟩
        · rw [h1]
          show some (HO.ins C.R dx (rf r kp pl')) = some (HO.ins C.R dx (rf u kp pl'))
          rw [hu]
          rfl
        · show KeptAt L.lT tl H' kp u.kept
          rw [hu]
          exact hk.keep nx nl k rfl rfl
      · have nq : q.1 ≠ i := by
          intro z
          have e1 : (b.rs.map (·.1))[j]? = some i := by rw [List.getElem?_map, ht]; rfl
          have e2 : (b.rs.map (·.1))[i']? = some i := by rw [List.getElem?_map, eq]; exact congrArg some z
          exact e (nd_ix nd e1 e2)
        rw [if_neg nq] at g2
        subst g2
        exact (h.rd i' c q g1 eq).keep nx nl (fun z => e (nd_ix h.ndr hj (by rw [← z]; exact g1))) k
end
section
variable {P : Program} {w : World} {K : PySem.W.Frag} {mg : Str → Option Value} {base : Heap} {C : Cl}
theorem scOpen : FnScope ["self", "w", "mode", "order", "lo", "hi", "kept"] ["self", "w", "mode", "order", "lo", "hi"] (defScope sB_open_reader) := ⟨rfl, rfl, rfl, by decide +kernel, rfl, by decide +kernel, by decide +kernel⟩
theorem ok_open {f g gT : Addr} {fd fg fT : FuncData} (F : Fun K "open_reader" "Board.open_reader" sB_open_reader f fd) (T : Txt K mg C) (M : Mk K C.R g) (G : Fun K "__init__" "Reader.__init__" sR_init g fg) (bG : Binds K fg ["self", "owner", "order", "lo", "hi", "kept"] [])
    (FT : Fun K "rows_there" "Board.rows_there" sB_rows_there gT fT) (bT : Binds K fT ["self"] []) (mT : Meth K C.B "rows_there" gT) : FnOk P w K mg base CX0 3 f fd ["self", "w", "mode", "order", "lo", "hi"] (spOpen C) := by
  have GG : FnOk P w K mg base CX0 1 g fg ["self", "owner", "order", "lo", "hi", "kept"] (spRInit C) := ok_rinit G T
  have GT : FnOk P w K mg base CX0 1 gT fT ["self"] (spThere C) := ok_there FT T
  refine F.ok scOpen (fun vs H Q E h => ?_) (fun cdv A outer s H vs Q E hr h => ?_)
  · obtain ⟨tl, L, b, o, w, m, od, lo, hi, rfl, _⟩ := h
    rfl
  · obtain ⟨tl, L, b, ot, w, m, od, lo, hi, rfl, S, Gd, htl, k⟩ := h
    obtain ⟨dB, hB⟩ := S.ob
    have hu := hu_of hr
    have hr1 : Room 1 _ := hr.mono (by decide)
    refine ⟨_, pss_cons (ps_if (PW.pt (pw_or (pt_cmpR op_gt (pv 1) (pe_c rfl T.c_LAST_PERSON) (nomark _)) (pw_or (pt_cmpR op_gt (pv 2) (pe_c rfl T.c_AS_IT_WAS) (nomark _)) (pw_or (pt_cmpR op_gt (pv 3) (pe_c rfl T.c_B_FALLING) (nomark _)) (pw_or1 (pt_cmpR op_gt (pv 4) (pv 5) (nomark _))))))) (pss_one (ps_ret (pe_c rfl T.c_OUT_OF_RANGE))) pss_nil)
      (pss_cons (ps_if (PW.pt (pw_or (pt_cmpR op_ge (pe_callB call_lenD (by rfl) T.len PySem.boot_len (pa_cons (pe_fld (pv 0) rfl) pa_nil)) (pe_c rfl T.c_MOST_READERS) (nomark _)) (pw_or1 (pt_cmpR op_ge (pe_fld (pv 0) rfl) (pe_c rfl T.c_MOST_EVER) (nomark _))))) (pss_one (ps_ret (pe_c rfl T.c_NO_ROOM))) pss_nil)
      (pss_cons (ps_set (i := 6) scOpen.nd rfl (Or.inl rfl) (pe_ifExp (pt_cmpR op_eq (pv 2) (pe_c rfl T.c_AS_IT_WAS) (nomark _)) (pe_meth0 (pv 0) T.cb mT GT hr1 bT .nil pass0) pe_non))
      (pss_cons (ps_dput hu (pe_fld (pv 0) rfl) (pe_fld (pv 0) rfl) (pe_make M GG hr rfl T.mgR bG .nil pass0 (pa_cons (pv 1) (pa_cons (pv 3) (pa_cons (pv 4) (pa_cons (pv 5) (pa_cons (pv 6) pa_nil)))))) rfl)
      (pss_cons (ps_fld (pv 0) (pe_op op_add (pe_fld (pv 0) rfl) pe_int) rfl)
      (pss_one (ps_ret (pe_op op_sub (pe_fld (pv 0) rfl) pe_int))))))), ?_⟩
    unfold mOpen at k
    have out : (15 < w ∨ 1 < m ∨ 3 < od ∨ hi < lo) → Q (.int (-22)) H := fun c => by
      rw [if_pos c] at k
      exact k H L rfl S (Frame.of_same (Same.refl' H))
    refine ⟨_, rfl, _, _, rfl, rfl, _, rfl, ?_⟩
    refine ite2 (fun c => iteT (out (.inl (by have := of_decide_eq_true c; omega)))) (fun c1 => ?_)
    have c1 : ¬ 15 < w := fun q => c1 (decide_eq_true (by show (15 : Int) < (w : Int); omega))
    refine ⟨_, rfl, _, _, rfl, rfl, _, rfl, ?_⟩
    refine ite2 (fun c => iteT (out (.inr (.inl (by have := of_decide_eq_true c; omega))))) (fun c2 => ?_)
    have c2 : ¬ 1 < m := fun q => c2 (decide_eq_true (by show (1 : Int) < (m : Int); omega))
    refine ⟨_, rfl, _, _, rfl, rfl, _, rfl, ?_⟩
    refine ite2 (fun c => iteT (out (.inr (.inr (.inl (by have := of_decide_eq_true c; omega)))))) (fun c3 => ?_)
    have c3 : ¬ 3 < od := fun q => c3 (decide_eq_true (by show (3 : Int) < (od : Int); omega))
    refine ⟨_, rfl, _, rfl, _, _, rfl, rfl, _, rfl, ?_⟩
    refine ite2 (fun c => out (.inr (.inr (.inr (by have := of_decide_eq_true c; omega))))) (fun c4 => ?_)
    have c4 : ¬ hi < lo := fun q => c4 (decide_eq_true (by show (hi : Int) < (lo : Int); omega))
    rw [if_neg (show ¬ (15 < w ∨ 1 < m ∨ 3 < od ∨ hi < lo) by omega)] at k
    have room : (8 ≤ b.rs.length ∨ 1000000 ≤ b.op) → Q (.int (-28)) H := fun c => by
      rw [if_pos c] at k
      exact k H L rfl S (Frame.of_same (Same.refl' H))
    have hkl : (kvsOf b.rs L.ras).length = b.rs.length := by
      unfold kvsOf
      rw [List.length_map, List.length_zip, S.lr, Nat.min_self]
    refine ⟨_, rfl, L.B, C.B, dB, _, _, rfl, hB, T.cb, T.nB_readers, rfl, L.dR, _, rfl, S.dic, _, _, rfl, rfl, _, rfl, ?_⟩
    rw [hkl]
    refine ite2 (fun c => iteT (room (.inl (by have := of_decide_eq_true c; omega)))) (fun c5 => ?_)
    have c5 : ¬ 8 ≤ b.rs.length := fun q => c5 (decide_eq_true (by show (8 : Int) ≤ (b.rs.length : Int); omega))
    refine ⟨_, rfl, L.B, C.B, dB, _, _, rfl, hB, T.cb, T.nB_opened, rfl, _, _, rfl, rfl, _, rfl, ?_⟩
    refine ite2 (fun c => room (.inr (by have := of_decide_eq_true c; omega))) (fun c6 => ?_)
    have c6 : ¬ 1000000 ≤ b.op := fun q => c6 (decide_eq_true (by show (1000000 : Int) ≤ (b.op : Int); omega))
    rw [if_neg (show ¬ (8 ≤ b.rs.length ∨ 1000000 ≤ b.op) by omega)] at k
    have nBd : L.B ≠ L.dR := ne_of hB S.dic (by intro z; cases z)
    -- behind kept = ..
    have main : ∀ (H1 : Hp) (kp : V), Same H H1 → KeptAt L.lT tl H1 kp (if m = 1 then some (live 0 b.ts) else none) →
        tSeq (sDPut (tFld K (tVar 0) "readers") (tFld K (tVar 0) "opened") (tMake C.R (spRInit C) [] E0 (tCons (tVar 1) (tCons (tVar 3) (tCons (tVar 4) (tCons (tVar 5) (tCons (tVar 6) tNil)))))))
          (tSeq (sFld K (tVar 0) (tOp (rI0 fun i j => .int (i + j)) (tFld K (tVar 0) "opened") (tC (.int 1))) "opened") (tRet (tOp (rI0 fun i j => .int (i - j)) (tFld K (tVar 0) "opened") (tC (.int 1)))))
          { nx := fun _ H' => Q .non H', rt := Q } [some (.ref L.B), some (.int w), some (.int m), some (.int od), some (.int lo), some (.int hi), some kp] H1 := by
      intro H1 kp s1 hk
      have hB1 := s1 _ _ hB
      have hd1 := s1 _ _ S.dic
      refine ⟨_, rfl, _, rfl, _, rfl, _, rfl, _, rfl, ?_⟩
      intro x dx nx ndx nex
      refine ⟨x, dx, w, od, lo, hi, kp, rfl, upd_same, fun H2 pl g1 g2 kk => ⟨rfl, ?_⟩⟩
      have s2 : Same H1 H2 := Same.made nx ndx kk
      have hB2 := s2 _ _ hB1
      have hd2 := s2 _ _ hd1
      refine ⟨_, rfl, L.B, C.B, dB, _, _, rfl, hB2, T.cb, T.nB_readers, rfl, _, rfl, L.B, C.B, dB, _, _, rfl, hB2, T.cb, T.nB_opened, rfl, L.dR, _, rfl, DPut.k (k := Sum.inl (b.op : Int)) hd2 (by rw [hkl]; exact small1000 (by omega)), ?_⟩
      refine ⟨_, rfl, L.B, C.B, dB, _, _, rfl, (by rw [upd_ne nBd]; exact hB2), T.cb, T.nB_opened, rfl, _, _, rfl, rfl, _, rfl, L.B, C.B, dB, _, rfl, (by rw [upd_ne nBd]; exact hB2), T.cb, T.nB_opened, (by show 4 < 1000; decide), ?_⟩
      refine ⟨_, rfl, L.B, C.B, dB, _, _, rfl, upd_same, T.cb, T.nB_opened, rfl, _, _, rfl, rfl, ?_⟩
      show Q (.int ((b.op : Int) + 1 - 1)) _
      rw [show (b.op : Int) + 1 - 1 = (b.op : Int) by omega]
      refine k _ { L with ras := L.ras ++ [x] } rfl (S.opens (H1 := H2) (u := ⟨w, od, lo, hi, if m = 1 then some (live 0 b.ts) else none, 0, 0⟩) (s1.trans s2) (s1.free nx) ⟨dx, kp, pl, g1, g2, hk.same s2⟩ ⟨dB, upd_same⟩ ?_ ?_) ?_
      · rw [upd_ne nBd.symm, upd_same, kvs_snoc _ _ _ _ S.lr]
        rcases kv_find b.rs L.ras S.lr b.op with ⟨_, h2⟩ | ⟨_, _, _, _, _, h3, _⟩
        · rw [putK_new _ h2]
        · rw [find_new Gd.lo] at h3
          cases h3
      · intro c o e n1 n2
        rw [upd_ne n1, upd_ne n2]
        exact e
      · intro c o e n
        refine ⟨?_, ?_⟩
        · rw [upd_ne (fun q => n (.inl q)), upd_ne (fun q => n (.inr (.inr (.inl q))))]
          exact s2 _ _ (s1 _ _ e)
        · rintro (z | z | z | z | z)
          · exact n (.inl z)
          · exact n (.inr (.inl z))
          · exact n (.inr (.inr (.inl z)))
          · exact n (.inr (.inr (.inr (.inl z))))
          · rcases List.mem_append.mp z with z | z
            · exact n (.inr (.inr (.inr (.inr z))))
            · have z : c = x := by simpa using z
              exact ne_of_none (s1 _ _ e) nx z
    refine ⟨_, rfl, rfl, _, rfl, ?_⟩
    show if decide (V.int (m : Int) = V.int ((1 : Nat) : Int)) = true then _ else _
    rw [dec_nat]
    by_cases cm : m = 1
    · rw [decide_eq_true cm]
      refine iteT ?_
      refine ⟨_, rfl, L.B, dB, _, rfl, hB, rfl, tl, L, b, rfl, S, Gd.ln, fun H1 p ra s1 hp hp1 rows => ?_⟩
      refine main H1 (.ref p) s1 ?_
      rw [if_pos cm]
      exact ⟨p, ra, rfl, (ne_of_none S.lst hp).symm, (ne_of_none htl hp).symm, hp1, rows⟩
    · rw [decide_eq_false cm]
      refine iteF ?_
      refine main H .non (Same.refl' H) ?_
      rw [if_neg cm]
      rfl
end
end My
set_option Elab.async false
set_option linter.all false
set_option maxRecDepth 100000
set_option maxHeartbeats 4000000
namespace My
open PySem PySem.Spec PyProof.Rows L2
open Kp200 (Thing key before sorted lastOf)
theorem lc_filter {K : PySem.W.Frag} {lr D : Addr} {ra : List Addr} {l : List Thing} {v : Nat} {σ : L2.St} {H1 : Hp} {Qd : Hp → Prop} (tt : TT) (p : Thing → Bool) (rows : RowsAt H1 ra l) (hlr : H1 lr = some (.lst (ra.map V.ref))) (ln : l.length ≤ 1000000) (hD : H1 D = none)
    (ht : ∀ (H' : Hp) (ρ : Addr) (x : Thing) (Q' : Bool → Hp → Prop), Same H1 H' → H' ρ = some (.tup (rowV x)) → x ∈ l → (∀ H'' : Hp, Same H' H'' → Q' (p x) H'') → tt ((wipe σ [v]).set v (some (.ref ρ))) H' Q')
    (hw : ∀ ρ : Addr, wipe ((wipe σ [v]).set v (some (.ref ρ))) [v] = wipe σ [v]) (hv : ∀ ρ : Addr, ((wipe σ [v]).set v (some (.ref ρ)))[v]? = some (some (.ref ρ)))
    (k : ∀ (H2 : Hp) (ra2 : List Addr), Same H1 H2 → H2 D = some (.lst (ra2.map V.ref)) → RowsAt H2 ra2 (l.filter p) → Qd H2) :
    ∃ W : Nat → Nat → Hp → Prop, (∃ m, W 0 m (upd H1 D (.lst []))) ∧ ∀ i m H, W i m H →
      ((Itl K lr).stop i H ∧ Qd H) ∨ ((Itl K lr).go i H ∧ ∃ Nx : Hp → Prop, (∀ H', Nx H' → ∃ m', m' < m ∧ W (i + 1) m' H') ∧ ∀ x H', (Itl K lr).yld i H x H' → gName v x (wipe σ [v]) H' fun σ2 H2 => wipe σ2 [v] = wipe σ [v] ∧ tt σ2 H2 fun b H3 =>
        if b = true then tVar v σ2 H3 fun y H4 => ∃ acc, H4 D = some (.lst acc) ∧ acc.length < sizeLine ∧ Nx (upd H4 D (.lst (acc ++ [y]))) else Nx H3) := by
  refine lc_list (K := K) (a := lr) (xs := ra.map V.ref) (g := gName v) (tt := tt) (te := tVar v) (vs := [v]) (σ := σ) (H1 := H1) (D := D)
    (fun i H' => Same H1 H' ∧ ∃ ra' : List Addr, H' D = some (.lst (ra'.map V.ref)) ∧ RowsAt H' ra' ((l.take i).filter p) ∧ ra'.length ≤ i) ⟨same_upd hD, [], upd_same, RowsAt.nil, Nat.le_refl _⟩ (fun i H' _ q => SqL.of (q.1 _ _ hlr)) ?_ ?_
  · intro i x H' hx q
    obtain ⟨ρ, hρ, rfl⟩ := map_ref_at hx
    obtain ⟨sm, ra', hD', rw', hrl⟩ := q
    have hil : i < l.length := by rw [← rows.len]; exact (List.getElem?_eq_some_iff.mp hρ).1
    have hxx : l[i]? = some l[i] := List.getElem?_eq_getElem hil
    generalize l[i] = xx at hxx
    have hrow := sm _ _ (rows.at_ i ρ xx hρ hxx)
    refine ⟨hw ρ, ht H' ρ xx _ sm hrow (List.mem_of_getElem? hxx) fun H2 s2 => ?_⟩
    have hD2 := s2 _ _ hD'
    cases c : p xx with
    | false =>
      refine iteF ⟨sm.trans s2, ra', hD2, ?_, Nat.le_succ_of_le hrl⟩
      rw [filter_take _ hxx, if_neg (by rw [c]; exact Bool.false_ne_true), List.append_nil]
      exact rw'.same s2
    | true =>
      refine iteT ⟨_, hv ρ, _, hD2, (by rw [List.length_map]; exact mil_lt (by omega)), ?_, ra' ++ [ρ], ?_, ?_, ?_⟩
      · intro c' o e
        rw [upd_ne (ne_of_none e hD)]
        exact s2 _ _ (sm _ _ e)
      · rw [upd_same, List.map_append]
        rfl
      · rw [filter_take _ hxx, if_pos c]
        exact ((rw'.same s2).snoc (s2 _ _ hrow)).upd hD2
      · rw [List.length_append]
        show ra'.length + 1 ≤ i + 1
        omega
  · intro H2 q
    obtain ⟨sm, ra', hD', rw', _⟩ := q
    rw [List.length_map, rows.len, List.take_length] at rw'
    exact k H2 ra' sm hD' rw'
/-- numbers_of -/
def spNum : Sp := fun vs H Q _ => ∃ (p : Addr) (ra : List Addr) (l : List Thing), vs = [.ref p] ∧ H p = some (.lst (ra.map V.ref)) ∧ RowsAt H ra l ∧ l.length ≤ 1000 ∧
  ∀ (H' : Hp) (q : Addr), Same H H' → H q = none → H' q = some (.lst ((tellB l).map V.int)) → Q (.ref q) H'
/-- what comes behind a call on the board that answers a list -/
def PostL (C : Cl) (tl : Addr) (H : Hp) (L : Lay) (b' : B) (Q : VK) (ans : List Int) : Prop := ∀ (H' : Hp) (L' : Lay) (p : Addr), L'.B = L.B → BoardAt C tl H' L' b' → Frame H L H' L' → H p = none → H' p = some (.lst (ans.map V.int)) → Q (.ref p) H'
def spNext (C : Cl) : Sp := fun vs H Q _ => ∃ (tl : Addr) (L : Lay) (b : B) (w i n : Nat), vs = [.ref L.B, .int w, .int i, .int n] ∧ BoardAt C tl H L b ∧ BGood b ∧ PostL C tl H L (mNext b w i n).1 Q (mNext b w i n).2
def spBack (C : Cl) : Sp := fun vs H Q _ => ∃ (tl : Addr) (L : Lay) (b : B) (w i n : Nat), vs = [.ref L.B, .int w, .int i, .int n] ∧ BoardAt C tl H L b ∧ BGood b ∧ PostL C tl H L (mBack b w i n).1 Q (mBack b w i n).2
def spLeft (C : Cl) : Sp := fun vs H Q _ => ∃ (tl : Addr) (L : Lay) (b : B) (w i : Nat), vs = [.ref L.B, .int w, .int i] ∧ BoardAt C tl H L b ∧ BGood b ∧ ∀ H' : Hp, Same H H' → Q (.int (mLeft b w i)) H'
def flatI (l : List Thing) : List Int := l.flatMap fun x => [(x.id : Int), (x.a : Int), (x.b : Int)]
theorem flat_take {l : List Thing} {i : Nat} {x : Thing} (h : l[i]? = some x) : flatI (l.take (i + 1)) = flatI (l.take i) ++ [(x.id : Int), (x.a : Int), (x.b : Int)] := by
  unfold flatI
  rw [take_snoc' h, List.flatMap_append]
  congr 1
theorem flat_len (l : List Thing) : (flatI l).length = 3 * l.length := by
  have := tell_len l
  unfold tellB at this
  rw [List.length_cons] at this
  unfold flatI
  omega
section
variable {P : Program} {w : World} {K : PySem.W.Frag} {mg : Str → Option Value} {base : Heap} {C : Cl}
theorem scNum : FnScope ["rows", "numbers", "row"] ["rows"] (defScope s_numbers_of) := ⟨rfl, rfl, rfl, by decide +kernel, rfl, by decide +kernel, by decide +kernel⟩
theorem ok_num {f : Addr} {fd : FuncData} (F : Fun K "numbers_of" "numbers_of" s_numbers_of f fd) (T : Txt K mg C) : FnOk P w K mg base CX0 1 f fd ["rows"] spNum := by
  refine F.ok scNum (fun vs H Q E h => ?_) (fun cdv A outer s H vs Q E hr h => ?_)
  · obtain ⟨p, ra, l, rfl, _⟩ := h
    rfl
  · obtain ⟨p, ra, l, rfl, hp, rows, ln, k⟩ := h
    refine ⟨_, pss_cons (ps_set (i := 1) scNum.nd rfl (Or.inl rfl) (pe_lst (pa_cons (pe_callB call_len_seq (by rfl) T.len PySem.boot_len (pa_cons (pv 0) pa_nil)) pa_nil)))
      (pss_cons (ps_for PassesOwn.never rfl (pi_list (pv 0)) (pg_name (i := 2) scNum.nd rfl (Or.inl rfl))
        (pss_one (ps_expr (pe_bm PySem.F.plainAttrs_list PySem.F.slot_list_extend PySem.F.type_list_extend mt_extendT (pv 1) (pa_cons (pv 2) pa_nil)))))
      (pss_one (ps_ret (pv 1)))), ?_⟩
    refine ⟨_, rfl, p, _, rfl, .inl (SqL.of hp), (by show 1 ≤ sizeLine; decide), fun q hq => ?_⟩
    have s1 : Same H (upd H q (.lst [.int ((ra.map V.ref).length : Nat)])) := same_upd hq
    refine ⟨_, rfl, p, rfl, ⟨_, SqL.of (s1 _ _ hp)⟩, for_list (K := K) (a := p) (xs := ra.map V.ref) (fun i σ H' => ∃ v : Option V, σ = [some (.ref p), some (.ref q), v] ∧ Same H H' ∧ H' q = some (.lst (((l.length : Int) :: flatI (l.take i)).map V.int)))
      ⟨none, rfl, s1, ?_⟩ (fun i σ H' _ ⟨_, _, s5, _⟩ => SqL.of (s5 _ _ hp)) ?_ ?_⟩
    · rw [upd_same, List.length_map, rows.len]
      rfl
    · rintro i y σ H' hi ⟨v, rfl, s5, hq'⟩
      obtain ⟨ρ, hρ, rfl⟩ := map_ref_at hi
      have hil : i < l.length := by rw [← rows.len]; exact (List.getElem?_eq_some_iff.mp hρ).1
      have hxx : l[i]? = some l[i] := List.getElem?_eq_getElem hil
      generalize l[i] = xx at hxx
      have hrow := s5 _ _ (rows.at_ i ρ xx hρ hxx)
      refine ⟨_, rfl, .inl ⟨rfl, _, SqL.of hq'⟩, _, rfl, q, ρ, _, _, rfl, rfl, hq', SqT.of hrow, ?_, ?_⟩
      · rw [List.length_map, List.length_cons, flat_len, List.length_take]
        show 3 * min i l.length + 1 + 3 ≤ sizeLine
        exact Nat.le_trans (by omega : 3 * min i l.length + 1 + 3 ≤ 4000) (by decide)
      · refine ⟨_, rfl, fun c o e => ?_, ?_⟩
        · rw [upd_ne (ne_of_none e hq)]
          exact s5 _ _ e
        · rw [upd_same, flat_take hxx]
          show some (HO.lst (((l.length : Int) :: flatI (l.take i)).map V.int ++ [(xx.id : Int), (xx.a : Int), (xx.b : Int)].map V.int)) = _
          rw [← List.map_append]
          rfl
    · rintro σ H' ⟨v, rfl, s5, hq'⟩
      rw [List.length_map, rows.len, List.take_length] at hq'
      exact ⟨_, rfl, k H' q s5 hq hq'⟩
end
theorem cut_take (xs : List V) (n : Nat) : cutV xs none (some (n : Int)) = xs.take n := by
  unfold cutV
  rw [HT.sIx_none, HT.sIx_nat, Nat.sub_zero, List.drop_zero]
  by_cases c : n ≤ xs.length
  · rw [Nat.min_eq_left c]
  · rw [List.take_of_length_le (by omega), List.take_of_length_le (by omega)]
theorem cut_last (xs : List V) (n : Nat) (h : 1 ≤ n) : cutV xs (some (-(n : Int))) none = xs.drop (xs.length - n) := by
  unfold cutV
  rw [HT.sIx_none]
  have e : HT.sIx xs.length 0 (some (-(n : Int))) = xs.length - n := by
    show (if -(n : Int) < 0 then (-(n : Int) + (xs.length : Int)).toNat else min (-(n : Int)).toNat xs.length) = _
    rw [if_pos (by omega)]
    omega
  rw [e]
  exact List.take_of_length_le (by rw [List.length_drop]; exact Nat.le_refl _)
theorem RowsAt.take {H : Hp} {ra : List Addr} {l : List Thing} (h : RowsAt H ra l) (n : Nat) : RowsAt H (ra.take n) (l.take n) := by
  refine ⟨by rw [List.length_take, List.length_take, h.len], fun j a x h1 h2 => ?_⟩
  rw [List.getElem?_take] at h1 h2
  split at h1
  · rename_i c
    rw [if_pos c] at h2
    exact h.at_ j a x h1 h2
  · cases h1
theorem RowsAt.drop {H : Hp} {ra : List Addr} {l : List Thing} (h : RowsAt H ra l) (n : Nat) : RowsAt H (ra.drop n) (l.drop n) := by
  refine ⟨by rw [List.length_drop, List.length_drop, h.len], fun j a x h1 h2 => ?_⟩
  rw [List.getElem?_drop] at h1 h2
  exact h.at_ _ a x h1 h2
theorem lastOf_snoc : ∀ (l : List Thing) (x : Thing), lastOf (l ++ [x]) = some x
  | [], x => rfl
  | [y], x => rfl
  | y :: z :: l, x => by
    show lastOf (z :: (l ++ [x])) = some x
    exact lastOf_snoc (z :: l) x
theorem snoc_of {α : Type} : ∀ {l : List α}, l ≠ [] → ∃ (l' : List α) (x : α), l = l' ++ [x]
  | [], h => absurd rfl h
  | [x], _ => ⟨[], x, rfl⟩
  | x :: y :: l, _ => by
    obtain ⟨l', z, e⟩ := snoc_of (l := y :: l) (by intro q; cases q)
    exact ⟨x :: l', z, by rw [e]; rfl⟩
theorem all_in {b : B} (G : BGood b) {r : R} (g : RGood b.ts.length r) : ∀ x ∈ allOf b.ts r, x.id < b.ts.length ∧ x.a < 4294967296 ∧ x.b < 4294967296 := fun x hx =>
  (rowsOk G g).lt x (List.mem_filter.mp ((sorted_perm _ _).mem_iff.mp hx)).1
theorem all_len {b : B} (G : BGood b) {r : R} (g : RGood b.ts.length r) : (allOf b.ts r).length ≤ 1000000 := by
  unfold allOf
  rw [(sorted_perm _ _).length_eq]
  exact Nat.le_trans (List.length_filter_le ..) (rowsOk G g).ln
end My
set_option Elab.async false
set_option linter.all false
set_option maxRecDepth 100000
set_option maxHeartbeats 4000000
namespace My
open PySem PySem.Spec PyProof.Rows L2
open Kp200 (Thing key before sorted lastOf)
def ttAhead (C : Cl) (i j : Nat) : TT := tB (tMeth C.R "is_ahead" (spAhead C) [] E0 (tVar i) (tCons (tVar j) tNil))
theorem rd_zero {rs : List (Nat × R)} {w i n : Nat} (h : mRefRd rs w i n = 0) : mRefR rs w i = 0 ∧ 1 ≤ n ∧ n ≤ 20 := by
  unfold mRefRd at h
  by_cases c : mRefR rs w i ≠ 0
  · rw [if_pos c] at h
    exact absurd h c
  · rw [if_neg c] at h
    by_cases c2 : n < 1 ∨ 20 < n
    · rw [if_pos c2] at h
      cases h
    · exact ⟨Decidable.not_not.mp c, by omega, by omega⟩
theorem next_ref {b : B} {w i n : Nat} (h : mRefRd b.rs w i n ≠ 0) : mNext b w i n = (b, [mRefRd b.rs w i n]) := by
  unfold mRefRd at h ⊢
  unfold mNext
  by_cases c : mRefR b.rs w i ≠ 0
  · rw [if_pos c, if_pos c]
  · rw [if_neg c] at h ⊢
    rw [if_neg c]
    by_cases c2 : n < 1 ∨ 20 < n
    · rw [if_pos c2, if_pos c2]
    · rw [if_neg c2] at h
      exact absurd rfl h
theorem back_ref {b : B} {w i n : Nat} (h : mRefRd b.rs w i n ≠ 0) : mBack b w i n = (b, [mRefRd b.rs w i n]) := by
  unfold mRefRd at h ⊢
  unfold mBack
  by_cases c : mRefR b.rs w i ≠ 0
  · rw [if_pos c, if_pos c]
  · rw [if_neg c] at h ⊢
    rw [if_neg c]
    by_cases c2 : n < 1 ∨ 20 < n
    · rw [if_pos c2, if_pos c2]
    · rw [if_neg c2] at h
      exact absurd rfl h
theorem next_at {b : B} {w i n : Nat} {r : R} (h : mRefRd b.rs w i n = 0) (hf : findR b.rs i = some r) : mNext b w i n = match lastOf (nextOf b.ts r n) with
      | none => (b, tellB (nextOf b.ts r n))
      | some x => ({ b with rs := setR b.rs i (behindR r x) }, tellB (nextOf b.ts r n)) := by
  obtain ⟨h1, h2, h3⟩ := rd_zero h
  unfold mNext
  rw [if_neg (fun z => z h1), if_neg (by omega), hf]
  all_goals rfl
theorem back_at {b : B} {w i n : Nat} {r : R} (h : mRefRd b.rs w i n = 0) (hf : findR b.rs i = some r) : mBack b w i n = match backOf b.ts r n with
      | [] => (b, tellB [])
      | x :: l => ({ b with rs := setR b.rs i (beforeR r x) }, tellB (x :: l)) := by
  obtain ⟨h1, h2, h3⟩ := rd_zero h
  unfold mBack
  rw [if_neg (fun z => z h1), if_neg (by omega), hf]
  all_goals rfl
theorem findR_zero {rs : List (Nat × R)} {w i : Nat} (h : mRefR rs w i = 0) : findR rs i ≠ none := by
  intro e
  unfold mRefR at h
  rw [e] at h
  cases h
section
variable {C : Cl} {tl : Addr} {H H3 H4 : Hp} {L : Lay} {b : B}
theorem go_post (S : BoardAt C tl H L b) (G : BGood b) (s3 : Same H H3) {j i : Nat} {ra dr : Addr} {kp : V} {pl pl' : Addr} {r u : R} (hj : L.ras[j]? = some ra) (ht : b.rs[j]? = some (i, r)) (g1 : H ra = some (.ins C.R dr (rf r kp pl))) (hk : KeptAt L.lT tl H kp r.kept)
    (hu : u = { r with pn := u.pn, pi := u.pi }) (e1 : H4 ra = some (.ins C.R dr (rf r kp pl'))) (e2 : H4 pl' = some (.tup [.int u.pn, .int u.pi])) (kk : ∀ c o, H3 c = some o → c ≠ ra → H4 c = some o) :
    BoardAt C tl H4 L { b with rs := setR b.rs i u } ∧ Frame H L H4 L ∧ ∀ c, H4 c = none → H c = none := by
  refine ⟨(S.same s3).goes G.nd hj ht hu (hk.same s3) e1 e2 kk, fun c o e n => ⟨kk c o (s3 _ _ e) fun q => n (.inr (.inr (.inr (.inr (by rw [q]; exact List.mem_of_getElem? hj))))), n⟩, fun c hc => ?_⟩
  cases q : H c with
  | none => rfl
  | some o =>
    by_cases z : c = ra
    · rw [z, e1] at hc
      cases hc
    · rw [kk c o (s3 _ _ q) z] at hc
      cases hc
end
section
variable {P : Program} {w : World} {K : PySem.W.Frag} {mg : Str → Option Value} {base : Heap} {C : Cl}
/-- what the calls that read lean on -/
structure Rds (P : Program) (w : World) (K : PySem.W.Frag) (mg : Str → Option Value) (base : Heap) (C : Cl) (gD gL gA gB gF gN : Addr) (fD fL fA fB fF fN : FuncData) : Prop where
  D : FnOk P w K mg base CX0 2 gD fD ["self", "w", "r", "n"] (spRefRd C)
  bD : Binds K fD ["self", "w", "r", "n"] []
  mD : Meth K C.B "refusal_of_reading" gD
  Rd : FnOk P w K mg base CX0 4 gL fL ["self", "reader"] (spRead C)
  bRd : Binds K fL ["self", "reader"] []
  mRd : Meth K C.B "rows_read" gL
  A : FnOk P w K mg base CX0 2 gA fA ["self", "row"] (spAhead C)
  bA : Binds K fA ["self", "row"] []
  mA : Meth K C.R "is_ahead" gA
  Be : FnOk P w K mg base CX0 2 gB fB ["self", "row"] (spGo C behindR)
  bBe : Binds K fB ["self", "row"] []
  mBe : Meth K C.R "go_behind" gB
  Bf : FnOk P w K mg base CX0 2 gF fF ["self", "row"] (spGo C beforeR)
  bBf : Binds K fF ["self", "row"] []
  mBf : Meth K C.R "go_before" gF
  N : FnOk P w K mg base CX0 1 gN fN ["rows"] spNum
  bN : Binds K fN ["rows"] []
  mN : mg "numbers_of" = some (.ref gN)
  kN : PySem.W.keepIn K (.ref gN) = true
variable {gD gL gA gB gF gN : Addr} {fD fL fA fB fF fN : FuncData}
theorem scNext : FnScope ["self", "w", "r", "n", "refusal", "reader", "rows", "row"] ["self", "w", "r", "n"] (defScope sB_read_on) := ⟨rfl, rfl, rfl, by decide +kernel, rfl, by decide +kernel, by decide +kernel⟩
theorem ok_next {f : Addr} {fd : FuncData} (F : Fun K "read_on" "Board.read_on" sB_read_on f fd) (T : Txt K mg C) (Z : Rds P w K mg base C gD gL gA gB gF gN fD fL fA fB fF fN) : FnOk P w K mg base CX0 5 f fd ["self", "w", "r", "n"] (spNext C) := by
  refine F.ok scNext (fun vs H Q E h => ?_) (fun cdv A outer s H vs Q E hr h => ?_)
  · obtain ⟨tl, L, b, w, i, n, rfl, _⟩ := h
    rfl
  · obtain ⟨tl, L, b, w, i, n, rfl, S, G, k⟩ := h
    obtain ⟨dB, hB⟩ := S.ob
    have hu := hu_of hr
    have hr2 : Room 2 _ := hr.mono (by decide)
    have hr1 : Room 1 _ := hr.mono (by decide)
    refine ⟨_, pss_cons (ps_set (i := 4) scNext.nd rfl (Or.inl rfl) (pe_meth (pv 0) T.cb Z.mD Z.D hr2 Z.bD .nil pass0 (pa_cons (pv 1) (pa_cons (pv 2) (pa_cons (pv 3) pa_nil)))))
      (pss_cons (ps_if (pt_cmpR op_ne (pv 4) pe_int (nomark _)) (pss_one (ps_ret (pe_lst (pa_cons (pv 4) pa_nil)))) pss_nil)
      (pss_cons (ps_set (i := 5) scNext.nd rfl (Or.inr rfl) (pe_dget hu (pe_fld (pv 0) rfl) (pv 2) (fun _ _ => rfl)))
      (pss_cons (ps_set (i := 6) scNext.nd rfl (Or.inl rfl) (pe_slice sl_list (pe_lc (own := [("row", 7)]) (g := gName 7) (tt := ttAhead C 5 7) (te := tVar 7) rfl scNext.nd (pi_list (pe_meth (pv 0) T.cb Z.mRd Z.Rd hr Z.bRd .nil pass0 (pa_cons (pv 5) pa_nil)))
          (show BlkOk ["self", "w", "r", "n", "refusal", "reader", "rows", "row"] (defScope sB_read_on) _ [("row", 7)] from blkOk_by (by decide +kernel))
          (fun _ _ _ _ _ => pg_name (i := 7) scNext.nd rfl (Or.inl rfl)) (fun _ _ _ _ _ => pts_one (pt_val (pe_meth (pv 5) T.cr Z.mA Z.A hr2 Z.bA .nil pass0 (pa_cons (pv 7) pa_nil)))) (fun _ _ _ _ _ => pv 7)) po_none (po_some (pv 3))))
      (pss_cons (ps_if (pt_cmpR op_gt (pe_callB call_len_seq (by rfl) T.len PySem.boot_len (pa_cons (pv 6) pa_nil)) pe_int (nomark _)) (pss_one (ps_expr (pe_meth (pv 5) T.cr Z.mBe Z.Be hr2 Z.bBe .nil pass0 (pa_cons (pe_ix ix_list (pv 6) (pe_un un_neg pe_int) (fun _ _ => rfl)) pa_nil)))) pss_nil)
      (pss_one (ps_ret (pe_call Z.N hr1 rfl Z.mN Z.kN Z.bN .nil pass0 (pa_cons (pv 6) pa_nil)))))))), ?_⟩
    refine ⟨_, rfl, L.B, dB, _, rfl, hB, rfl, _, rfl, _, rfl, _, rfl, tl, L, b, w, i, n, rfl, S, ?_⟩
    refine ⟨_, rfl, rfl, _, rfl, ?_⟩
    rw [dec_z]
    by_cases c : mRefRd b.rs w i n ≠ 0
    · rw [decide_eq_false c]
      refine iteT ⟨_, rfl, (by show 1 ≤ sizeLine; decide), fun p hp => ?_⟩
      rw [next_ref c] at k
      exact k _ L p rfl (S.same (same_upd hp)) (Frame.of_same (same_upd hp)) hp upd_same
    · have c0 := Decidable.not_not.mp c
      rw [decide_eq_true c0]
      refine iteF ?_
      obtain ⟨z1, z2, z3⟩ := rd_zero c0
      rcases kv_find b.rs L.ras S.lr i with ⟨h1, h2⟩ | ⟨j, r, ra, h1, h2, h3, h4⟩
      · exact absurd h1 (findR_zero z1)
      have hg := DGet.k (k := Sum.inl (i : Int)) S.dic
      rw [h4] at hg
      rw [next_at c0 h3] at k
      have gd := G.rd _ (List.mem_of_getElem? h1)
      obtain ⟨dr, kp, pl, g1, g2, g3⟩ := S.rd j ra _ h2 h1
      refine ⟨_, rfl, L.B, C.B, dB, _, _, rfl, hB, T.cb, T.nB_readers, rfl, _, rfl, L.dR, _, rfl, hg, ?_⟩
      refine ⟨_, rfl, L.B, dB, _, rfl, hB, rfl, _, rfl, tl, L, b, ra, r, rfl, S, G, gd, ⟨dr, kp, pl, g1, g2, g3⟩, fun H1 lr ra1 s1 hlr0 hlr rows => ⟨lr, rfl, ⟨_, SqL.of hlr⟩, fun D hD => ?_⟩⟩
      refine lc_filter (σ := [some (.ref L.B), some (.int w), some (.int i), some (.int n), some (.int (mRefRd b.rs w i n)), some (.ref ra), none, none]) (ttAhead C 5 7) (aheadB r) rows hlr (all_len G gd) hD ?_ (fun _ => rfl) (fun _ => rfl) ?_
      · intro H' ρ x Q' sm hρ hx k'
        obtain ⟨_, xa, xb⟩ := all_in G gd x hx
        exact ⟨_, rfl, ra, dr, _, rfl, sm _ _ (s1 _ _ g1), rfl, _, rfl, ra, ρ, dr, kp, pl, r, x, rfl, sm _ _ (s1 _ _ g1), sm _ _ (s1 _ _ g2), hρ, gd.od, xa, xb, fun H'' s'' => ⟨_, rfl, k' H'' s''⟩⟩
      · intro H2 ra2 s2 hD2 rows2
        refine ⟨_, rfl, _, rfl, D, _, rfl, SqL.of hD2, fun q hq => ?_⟩
        rw [cut_take, ← List.map_take]
        have s3 : Same H2 (upd H2 q (.lst ((ra2.take n).map V.ref))) := same_upd hq
        have rows3 : RowsAt (upd H2 q (.lst ((ra2.take n).map V.ref))) (ra2.take n) (nextOf b.ts r n) := (rows2.take n).same s3
        have sH := (s1.trans s2).trans s3
        have hq3 : (upd H2 q (.lst ((ra2.take n).map V.ref))) q = some (.lst ((ra2.take n).map V.ref)) := upd_same
        have hln : (nextOf b.ts r n).length ≤ 20 := by
          have : (nextOf b.ts r n).length ≤ n := by unfold nextOf; rw [List.length_take]; omega
          omega
        have hin : ∀ x ∈ nextOf b.ts r n, x.id < b.ts.length ∧ x.a < 4294967296 ∧ x.b < 4294967296 := fun x hx => all_in G gd x (List.mem_filter.mp (List.mem_of_mem_take hx)).1
        generalize upd H2 q (.lst ((ra2.take n).map V.ref)) = H3 at rows3 sH hq3 ⊢
        generalize ra2.take n = ra3 at rows3 hq3 ⊢
        generalize nextOf b.ts r n = l3 at k rows3 hln hin
        refine ⟨_, rfl, q, _, rfl, .inl (SqL.of hq3), _, _, rfl, rfl, _, rfl, ?_⟩
        by_cases e3 : l3 = []
        · subst e3
          have er : ra3 = [] := List.length_eq_zero_iff.mp (rows3.len.trans rfl)
          subst er
          refine iteF ?_
          refine ⟨_, rfl, q, [], [], rfl, hq3, rows3, Nat.zero_le _, fun H5 p5 s5 hp5 h5 => ?_⟩
          exact k H5 L p5 rfl (S.same (sH.trans s5)) (Frame.of_same (sH.trans s5)) (sH.free hp5) h5
        · obtain ⟨l', x, el⟩ := snoc_of e3
          have e3r : ra3 ≠ [] := fun z => e3 (by have := rows3.len; rw [z] at this; exact List.length_eq_zero_iff.mp this.symm)
          obtain ⟨ra', ρ, er⟩ := snoc_of e3r
          have hl' : ra'.length = l'.length := by
            have := rows3.len
            rw [el, er, List.length_append, List.length_append] at this
            simpa using this
          have hρ : H3 ρ = some (.tup (rowV x)) := rows3.at_ ra'.length ρ x (by rw [er, List.getElem?_append_right (Nat.le_refl _), Nat.sub_self]; rfl) (by rw [el, hl', List.getElem?_append_right (Nat.le_refl _), Nat.sub_self]; rfl)
          have hx := hin x (by rw [el]; exact List.mem_append_right _ (List.mem_cons_self ..))
          have hpos : decide ((0 : Int) < (((ra3.map V.ref).length : Nat) : Int)) = true := decide_eq_true (by rw [List.length_map, er, List.length_append]; show (0 : Int) < ((ra'.length + 1 : Nat) : Int); omega)
          rw [hpos]
          refine iteT ?_
          have hat : atI (ra3.map V.ref) (-1) = some (V.ref ρ) := by rw [er, List.map_append]; exact atI_last _ _
          refine ⟨_, rfl, ra, dr, _, rfl, sH _ _ g1, rfl, _, rfl, _, rfl, q, _, _, _, rfl, rfl, SqL.of hq3, hat, ra, ρ, dr, kp, pl, r, x, rfl, sH _ _ g1, hρ, gd.od, hx.2.1, hx.2.2, fun H4 pl' e1 e2 kk => ?_⟩
          obtain ⟨b4, f4, n4⟩ := go_post S G sH h2 h1 g1 g3 (u := behindR r x) rfl e1 e2 kk
          have hq4 : H4 q = some (.lst (ra3.map V.ref)) := kk _ _ hq3 (ne_of hq3 (sH _ _ g1) (by intro z; cases z))
          have rows4 : RowsAt H4 ra3 l3 := rows3.keep (x := ra) (by rw [sH _ _ g1]; intro xs z; cases z) kk
          refine ⟨_, rfl, q, ra3, l3, rfl, hq4, rows4, by omega, fun H5 p5 s5 hp5 h5 => ?_⟩
          rw [show lastOf l3 = some x by rw [el]; exact lastOf_snoc _ _] at k
          exact k H5 L p5 rfl (b4.same s5) (f4.trans (Frame.of_same s5)) (n4 _ hp5) h5
theorem scBack : FnScope ["self", "w", "r", "n", "refusal", "reader", "rows", "row"] ["self", "w", "r", "n"] (defScope sB_read_back) := ⟨rfl, rfl, rfl, by decide +kernel, rfl, by decide +kernel, by decide +kernel⟩
theorem ok_back {f : Addr} {fd : FuncData} (F : Fun K "read_back" "Board.read_back" sB_read_back f fd) (T : Txt K mg C) (Z : Rds P w K mg base C gD gL gA gB gF gN fD fL fA fB fF fN) : FnOk P w K mg base CX0 5 f fd ["self", "w", "r", "n"] (spBack C) := by
  refine F.ok scBack (fun vs H Q E h => ?_) (fun cdv A outer s H vs Q E hr h => ?_)
  · obtain ⟨tl, L, b, w, i, n, rfl, _⟩ := h
    rfl
  · obtain ⟨tl, L, b, w, i, n, rfl, S, G, k⟩ := h
    obtain ⟨dB, hB⟩ := S.ob
    have hu := hu_of hr
    have hr2 : Room 2 _ := hr.mono (by decide)
    have hr1 : Room 1 _ := hr.mono (by decide)
    refine ⟨_, pss_cons (ps_set (i := 4) scBack.nd rfl (Or.inl rfl) (pe_meth (pv 0) T.cb Z.mD Z.D hr2 Z.bD .nil pass0 (pa_cons (pv 1) (pa_cons (pv 2) (pa_cons (pv 3) pa_nil)))))
      (pss_cons (ps_if (pt_cmpR op_ne (pv 4) pe_int (nomark _)) (pss_one (ps_ret (pe_lst (pa_cons (pv 4) pa_nil)))) pss_nil)
      (pss_cons (ps_set (i := 5) scBack.nd rfl (Or.inr rfl) (pe_dget hu (pe_fld (pv 0) rfl) (pv 2) (fun _ _ => rfl)))
      (pss_cons (ps_set (i := 6) scBack.nd rfl (Or.inl rfl) (pe_slice sl_list (pe_lc (own := [("row", 7)]) (g := gName 7) (tt := tNot (ttAhead C 5 7)) (te := tVar 7) rfl scBack.nd (pi_list (pe_meth (pv 0) T.cb Z.mRd Z.Rd hr Z.bRd .nil pass0 (pa_cons (pv 5) pa_nil)))
          (show BlkOk ["self", "w", "r", "n", "refusal", "reader", "rows", "row"] (defScope sB_read_back) _ [("row", 7)] from blkOk_by (by decide +kernel))
          (fun _ _ _ _ _ => pg_name (i := 7) scBack.nd rfl (Or.inl rfl)) (fun _ _ _ _ _ => pts_one (pt_not (pt_val (pe_meth (pv 5) T.cr Z.mA Z.A hr2 Z.bA .nil pass0 (pa_cons (pv 7) pa_nil))))) (fun _ _ _ _ _ => pv 7)) (po_some (pe_un un_neg (pv 3))) po_none))
      (pss_cons (ps_if (pt_cmpR op_gt (pe_callB call_len_seq (by rfl) T.len PySem.boot_len (pa_cons (pv 6) pa_nil)) pe_int (nomark _)) (pss_one (ps_expr (pe_meth (pv 5) T.cr Z.mBf Z.Bf hr2 Z.bBf .nil pass0 (pa_cons (pe_ix ix_list (pv 6) pe_int (fun _ _ => rfl)) pa_nil)))) pss_nil)
      (pss_one (ps_ret (pe_call Z.N hr1 rfl Z.mN Z.kN Z.bN .nil pass0 (pa_cons (pv 6) pa_nil)))))))), ?_⟩
    refine ⟨_, rfl, L.B, dB, _, rfl, hB, rfl, _, rfl, _, rfl, _, rfl, tl, L, b, w, i, n, rfl, S, ?_⟩
    refine ⟨_, rfl, rfl, _, rfl, ?_⟩
    rw [dec_z]
    by_cases c : mRefRd b.rs w i n ≠ 0
    · rw [decide_eq_false c]
      refine iteT ⟨_, rfl, (by show 1 ≤ sizeLine; decide), fun p hp => ?_⟩
      rw [back_ref c] at k
      exact k _ L p rfl (S.same (same_upd hp)) (Frame.of_same (same_upd hp)) hp upd_same
    · have c0 := Decidable.not_not.mp c
      rw [decide_eq_true c0]
      refine iteF ?_
      obtain ⟨z1, z2, z3⟩ := rd_zero c0
      rcases kv_find b.rs L.ras S.lr i with ⟨h1, h2⟩ | ⟨j, r, ra, h1, h2, h3, h4⟩
      · exact absurd h1 (findR_zero z1)
      have hg := DGet.k (k := Sum.inl (i : Int)) S.dic
      rw [h4] at hg
      rw [back_at c0 h3] at k
      have gd := G.rd _ (List.mem_of_getElem? h1)
      obtain ⟨dr, kp, pl, g1, g2, g3⟩ := S.rd j ra _ h2 h1
      refine ⟨_, rfl, L.B, C.B, dB, _, _, rfl, hB, T.cb, T.nB_readers, rfl, _, rfl, L.dR, _, rfl, hg, ?_⟩
      refine ⟨_, rfl, L.B, dB, _, rfl, hB, rfl, _, rfl, tl, L, b, ra, r, rfl, S, G, gd, ⟨dr, kp, pl, g1, g2, g3⟩, fun H1 lr ra1 s1 hlr0 hlr rows => ⟨lr, rfl, ⟨_, SqL.of hlr⟩, fun D hD => ?_⟩⟩
      refine lc_filter (σ := [some (.ref L.B), some (.int w), some (.int i), some (.int n), some (.int (mRefRd b.rs w i n)), some (.ref ra), none, none]) (tNot (ttAhead C 5 7)) (fun x => !aheadB r x) rows hlr (all_len G gd) hD ?_ (fun _ => rfl) (fun _ => rfl) ?_
      · intro H' ρ x Q' sm hρ hx k'
        obtain ⟨_, xa, xb⟩ := all_in G gd x hx
        exact ⟨_, rfl, ra, dr, _, rfl, sm _ _ (s1 _ _ g1), rfl, _, rfl, ra, ρ, dr, kp, pl, r, x, rfl, sm _ _ (s1 _ _ g1), sm _ _ (s1 _ _ g2), hρ, gd.od, xa, xb, fun H'' s'' => ⟨_, rfl, k' H'' s''⟩⟩
      · intro H2 ra2 s2 hD2 rows2
        refine ⟨_, rfl, _, rfl, _, rfl, D, _, rfl, SqL.of hD2, fun q hq => ?_⟩
        rw [cut_last _ _ z2, List.length_map, ← List.map_drop]
        have s3 : Same H2 (upd H2 q (.lst ((ra2.drop (ra2.length - n)).map V.ref))) := same_upd hq
        have rows3 : RowsAt (upd H2 q (.lst ((ra2.drop (ra2.length - n)).map V.ref))) (ra2.drop (ra2.length - n)) (backOf b.ts r n) := by
          unfold backOf lastN
          rw [← rows2.len]
          exact (rows2.drop _).same s3
        have sH := (s1.trans s2).trans s3
        have hq3 : (upd H2 q (.lst ((ra2.drop (ra2.length - n)).map V.ref))) q = some (.lst ((ra2.drop (ra2.length - n)).map V.ref)) := upd_same
        have hln : (backOf b.ts r n).length ≤ 20 := Nat.le_trans (lastN_len _ _) z3
        have hin : ∀ x ∈ backOf b.ts r n, x.id < b.ts.length ∧ x.a < 4294967296 ∧ x.b < 4294967296 := fun x hx => all_in G gd x (List.mem_filter.mp (List.mem_of_mem_drop hx)).1
        generalize upd H2 q (.lst ((ra2.drop (ra2.length - n)).map V.ref)) = H3 at rows3 sH hq3 ⊢
        generalize ra2.drop (ra2.length - n) = ra3 at rows3 hq3 ⊢
        generalize backOf b.ts r n = l3 at k rows3 hln hin
        refine ⟨_, rfl, q, _, rfl, .inl (SqL.of hq3), _, _, rfl, rfl, _, rfl, ?_⟩
        cases l3 with
        | nil =>
          have er : ra3 = [] := List.length_eq_zero_iff.mp (rows3.len.trans rfl)
          subst er
          refine iteF ?_
          refine ⟨_, rfl, q, [], [], rfl, hq3, rows3, Nat.zero_le _, fun H5 p5 s5 hp5 h5 => ?_⟩
          exact k H5 L p5 rfl (S.same (sH.trans s5)) (Frame.of_same (sH.trans s5)) (sH.free hp5) h5
        | cons x l' =>
          cases ra3 with
          | nil => exact absurd rows3.len (by simp)
          | cons ρ ra' =>
            have hρ : H3 ρ = some (.tup (rowV x)) := rows3.at_ 0 ρ x rfl rfl
            have hx := hin x (List.mem_cons_self ..)
            have hpos : decide ((0 : Int) < ((((ρ :: ra').map V.ref).length : Nat) : Int)) = true := decide_eq_true (by rw [List.length_map, List.length_cons]; omega)
            rw [hpos]
            refine iteT ?_
            have hat : atI ((ρ :: ra').map V.ref) (0 : Int) = some (V.ref ρ) := atI_nat (j := 0) rfl
            refine ⟨_, rfl, ra, dr, _, rfl, sH _ _ g1, rfl, _, rfl, q, _, _, _, rfl, rfl, SqL.of hq3, hat, ra, ρ, dr, kp, pl, r, x, rfl, sH _ _ g1, hρ, gd.od, hx.2.1, hx.2.2, fun H4 pl' e1 e2 kk => ?_⟩
            obtain ⟨b4, f4, n4⟩ := go_post S G sH h2 h1 g1 g3 (u := beforeR r x) rfl e1 e2 kk
            have hq4 : H4 q = some (.lst ((ρ :: ra').map V.ref)) := kk _ _ hq3 (ne_of hq3 (sH _ _ g1) (by intro z; cases z))
            have rows4 : RowsAt H4 (ρ :: ra') (x :: l') := rows3.keep (x := ra) (by rw [sH _ _ g1]; intro xs z; cases z) kk
            refine ⟨_, rfl, q, ρ :: ra', x :: l', rfl, hq4, rows4, by omega, fun H5 p5 s5 hp5 h5 => ?_⟩
            exact k H5 L p5 rfl (b4.same s5) (f4.trans (Frame.of_same s5)) (n4 _ hp5) h5
theorem scLeft : FnScope ["self", "w", "r", "refusal", "reader", "row"] ["self", "w", "r"] (defScope sB_count_left) := ⟨rfl, rfl, rfl, by decide +kernel, rfl, by decide +kernel, by decide +kernel⟩
theorem ok_left {f g : Addr} {fd fg : FuncData} (F : Fun K "count_left" "Board.count_left" sB_count_left f fd) (T : Txt K mg C) (Z : Rds P w K mg base C gD gL gA gB gF gN fD fL fA fB fF fN)
    (G' : Fun K "refusal_of_reader" "Board.refusal_of_reader" sB_refusal_of_reader g fg) (bG : Binds K fg ["self", "w", "r"] []) (mG : Meth K C.B "refusal_of_reader" g) : FnOk P w K mg base CX0 5 f fd ["self", "w", "r"] (spLeft C) := by
  have GG : FnOk P w K mg base CX0 1 g fg ["self", "w", "r"] (spRefR C) := ok_refR G' T
  refine F.ok scLeft (fun vs H Q E h => ?_) (fun cdv A outer s H vs Q E hr h => ?_)
  · obtain ⟨tl, L, b, w, i, rfl, _⟩ := h
    rfl
  · obtain ⟨tl, L, b, w, i, rfl, S, G, k⟩ := h
    obtain ⟨dB, hB⟩ := S.ob
    have hu := hu_of hr
    have hr2 : Room 2 _ := hr.mono (by decide)
    have hr1 : Room 1 _ := hr.mono (by decide)
    refine ⟨_, pss_cons (ps_set (i := 3) scLeft.nd rfl (Or.inl rfl) (pe_meth (pv 0) T.cb mG GG hr1 bG .nil pass0 (pa_cons (pv 1) (pa_cons (pv 2) pa_nil))))
      (pss_cons (ps_if (pt_cmpR op_ne (pv 3) pe_int (nomark _)) (pss_one (ps_ret (pv 3))) pss_nil)
      (pss_cons (ps_set (i := 4) scLeft.nd rfl (Or.inr rfl) (pe_dget hu (pe_fld (pv 0) rfl) (pv 2) (fun _ _ => rfl)))
      (pss_one (ps_ret (pe_callB call_len_seq (by rfl) T.len PySem.boot_len (pa_cons (pe_lc (own := [("row", 5)]) (g := gName 5) (tt := ttAhead C 4 5) (te := tVar 5) rfl scLeft.nd (pi_list (pe_meth (pv 0) T.cb Z.mRd Z.Rd hr Z.bRd .nil pass0 (pa_cons (pv 4) pa_nil)))
          (show BlkOk ["self", "w", "r", "refusal", "reader", "row"] (defScope sB_count_left) _ [("row", 5)] from blkOk_by (by decide +kernel))
          (fun _ _ _ _ _ => pg_name (i := 5) scLeft.nd rfl (Or.inl rfl)) (fun _ _ _ _ _ => pts_one (pt_val (pe_meth (pv 4) T.cr Z.mA Z.A hr2 Z.bA .nil pass0 (pa_cons (pv 5) pa_nil)))) (fun _ _ _ _ _ => pv 5)) pa_nil)))))), ?_⟩
    refine ⟨_, rfl, L.B, dB, _, rfl, hB, rfl, _, rfl, _, rfl, tl, L, b, w, i, rfl, S, ?_⟩
    refine ⟨_, rfl, rfl, _, rfl, ?_⟩
    rw [dec_z]
    unfold mLeft at k
    by_cases c : mRefR b.rs w i ≠ 0
    · rw [decide_eq_false c]
      rw [if_pos c] at k
      exact iteT ⟨_, rfl, k H (Same.refl' H)⟩
    · have c0 := Decidable.not_not.mp c
      rw [if_neg c] at k
      rw [decide_eq_true c0]
      refine iteF ?_
      rcases kv_find b.rs L.ras S.lr i with ⟨h1, h2⟩ | ⟨j, r, ra, h1, h2, h3, h4⟩
      · exact absurd h1 (findR_zero c0)
      have hg := DGet.k (k := Sum.inl (i : Int)) S.dic
      rw [h4] at hg
      rw [h3] at k
      have gd := G.rd _ (List.mem_of_getElem? h1)
      obtain ⟨dr, kp, pl, g1, g2, g3⟩ := S.rd j ra _ h2 h1
      refine ⟨_, rfl, L.B, C.B, dB, _, _, rfl, hB, T.cb, T.nB_readers, rfl, _, rfl, L.dR, _, rfl, hg, ?_⟩
      refine ⟨_, rfl, L.B, dB, _, rfl, hB, rfl, _, rfl, tl, L, b, ra, r, rfl, S, G, gd, ⟨dr, kp, pl, g1, g2, g3⟩, fun H1 lr ra1 s1 hlr0 hlr rows => ⟨lr, rfl, ⟨_, SqL.of hlr⟩, fun D hD => ?_⟩⟩
      refine lc_filter (σ := [some (.ref L.B), some (.int w), some (.int i), some (.int (mRefR b.rs w i)), some (.ref ra), none]) (ttAhead C 4 5) (aheadB r) rows hlr (all_len G gd) hD ?_ (fun _ => rfl) (fun _ => rfl) ?_
      · intro H' ρ x Q' sm hρ hx k'
        obtain ⟨_, xa, xb⟩ := all_in G gd x hx
        exact ⟨_, rfl, ra, dr, _, rfl, sm _ _ (s1 _ _ g1), rfl, _, rfl, ra, ρ, dr, kp, pl, r, x, rfl, sm _ _ (s1 _ _ g1), sm _ _ (s1 _ _ g2), hρ, gd.od, xa, xb, fun H'' s'' => ⟨_, rfl, k' H'' s''⟩⟩
      · intro H2 ra2 s2 hD2 rows2
        refine ⟨D, _, rfl, .inl (SqL.of hD2), ?_⟩
        rw [List.length_map, rows2.len]
        exact k H2 (s1.trans s2)
end
end My
set_option Elab.async false
set_option linter.all false
set_option maxRecDepth 100000
set_option maxHeartbeats 8000000
namespace My
open PySem PySem.Spec PyProof.Rows L2
open Kp200 (Thing key before sorted lastOf)
def PostA (C : Cl) (tl : Addr) (H : Hp) (L : Lay) (b' : B) (Q : VK) (ans : List Int) : Prop := ∀ (H' : Hp) (L' : Lay) (p : Addr), L'.B = L.B → BoardAt C tl H' L' b' → Frame H L H' L' → p ≠ tl → H' p = some (.lst (ans.map V.int)) → Q (.ref p) H'
/-- answer_of, for calls from lo on -/
def spAOf (C : Cl) (lo : Int) : Sp := fun vs H Q _ => ∃ (tl : Addr) (L : Lay) (b : B) (o : HO) (gv : Addr) (c : Int) (args : List Int), vs = [.ref L.B, .int c, .ref gv] ∧ Asked (c :: args) ∧ lo ≤ c ∧ H gv = some (.lst (args.map V.int)) ∧ BoardAt C tl H L b ∧ BGood b ∧ H tl = some o ∧ ¬ Foot L tl ∧
  PostA C tl H L (mStep b (c :: args)).1 Q (mStep b (c :: args)).2
section
variable {P : Program} {w : World} {K : PySem.W.Frag} {mg : Str → Option Value} {base : Heap} {C : Cl}
/-- one number, in a new list -/
theorem one_of {tl : Addr} {H : Hp} {L : Lay} {b' : B} {o : HO} {Q : VK} {z : Int} (htl : H tl = some o) (nf : ¬ Foot L tl) (k : PostA C tl H L b' Q [z]) : Post C tl H L b' (fun v H' => tLst (fun _ H1 Q1 => Q1 [v] H1) [] H' Q) (.int z) := by
  intro H' L' eB S' fr
  refine ⟨(by show 1 ≤ sizeLine; decide), fun p hp => ?_⟩
  have ht' := (fr tl o htl nf).1
  exact k _ L' p eB (S'.same (same_upd hp)) (fr.trans (Frame.of_same (same_upd hp))) (ne_of_none ht' hp).symm upd_same
theorem scAR : FnScope ["board", "call", "given"] ["board", "call", "given"] (defScope s_answer_on_readers) := ⟨rfl, rfl, rfl, by decide +kernel, rfl, by decide +kernel, by decide +kernel⟩
theorem ok_ar {f gO gN gB gL gC : Addr} {fd fO fN fB fL fC : FuncData} (F : Fun K "answer_on_readers" "answer_on_readers" s_answer_on_readers f fd) (T : Txt K mg C)
    (GO : FnOk P w K mg base CX0 3 gO fO ["self", "w", "mode", "order", "lo", "hi"] (spOpen C)) (bO : Binds K fO ["self", "w", "mode", "order", "lo", "hi"] []) (mO : Meth K C.B "open_reader" gO)
    (GN : FnOk P w K mg base CX0 5 gN fN ["self", "w", "r", "n"] (spNext C)) (bN : Binds K fN ["self", "w", "r", "n"] []) (mN : Meth K C.B "read_on" gN)
    (GB : FnOk P w K mg base CX0 5 gB fB ["self", "w", "r", "n"] (spBack C)) (bB : Binds K fB ["self", "w", "r", "n"] []) (mB : Meth K C.B "read_back" gB)
    (GL : FnOk P w K mg base CX0 5 gL fL ["self", "w", "r"] (spLeft C)) (bL : Binds K fL ["self", "w", "r"] []) (mL : Meth K C.B "count_left" gL)
    (GC : FnOk P w K mg base CX0 2 gC fC ["self", "w", "r"] (spClose C)) (bC : Binds K fC ["self", "w", "r"] []) (mC : Meth K C.B "close_reader" gC) : FnOk P w K mg base CX0 6 f fd ["board", "call", "given"] (spAOf C 5) := by
  refine F.ok scAR (fun vs H Q E h => ?_) (fun cdv A outer s H vs Q E hr h => ?_)
  · obtain ⟨tl, L, b, o, gv, c, args, rfl, _⟩ := h
    rfl
  · obtain ⟨tl, L, b, o, gv, c, args, rfl, As, hlo, hgv, S, G, htl, nf, k⟩ := h
    obtain ⟨dB, hB⟩ := S.ob
    have hr3 : Room 3 _ := hr.mono (by decide)
    have hr2 : Room 2 _ := hr.mono (by decide)
    refine ⟨_, pss_cons (ps_if (pt_cmpR op_eq (pv 1) (pe_c rfl T.c_OPEN_READER) (nomark _)) (pss_one (ps_ret (pe_lst (pa_cons (pe_meth (pv 0) T.cb mO GO hr3 bO .nil pass0 (pa_cons (pe_ix ix_list (pv 2) pe_int (fun _ _ => rfl)) (pa_cons (pe_ix ix_list (pv 2) pe_int (fun _ _ => rfl)) (pa_cons (pe_ix ix_list (pv 2) pe_int (fun _ _ => rfl)) (pa_cons (pe_ix ix_list (pv 2) pe_int (fun _ _ => rfl)) (pa_cons (pe_ix ix_list (pv 2) pe_int (fun _ _ => rfl)) pa_nil)))))) pa_nil)))) pss_nil)
      (pss_cons (ps_if (pt_cmpR op_eq (pv 1) (pe_c rfl T.c_READ_ON) (nomark _)) (pss_one (ps_ret (pe_meth (pv 0) T.cb mN GN hr bN .nil pass0 (pa_cons (pe_ix ix_list (pv 2) pe_int (fun _ _ => rfl)) (pa_cons (pe_ix ix_list (pv 2) pe_int (fun _ _ => rfl)) (pa_cons (pe_ix ix_list (pv 2) pe_int (fun _ _ => rfl)) pa_nil)))))) pss_nil)
      (pss_cons (ps_if (pt_cmpR op_eq (pv 1) (pe_c rfl T.c_READ_BACK) (nomark _)) (pss_one (ps_ret (pe_meth (pv 0) T.cb mB GB hr bB .nil pass0 (pa_cons (pe_ix ix_list (pv 2) pe_int (fun _ _ => rfl)) (pa_cons (pe_ix ix_list (pv 2) pe_int (fun _ _ => rfl)) (pa_cons (pe_ix ix_list (pv 2) pe_int (fun _ _ => rfl)) pa_nil)))))) pss_nil)
      (pss_cons (ps_if (pt_cmpR op_eq (pv 1) (pe_c rfl T.c_COUNT_LEFT) (nomark _)) (pss_one (ps_ret (pe_lst (pa_cons (pe_meth (pv 0) T.cb mL GL hr bL .nil pass0 (pa_cons (pe_ix ix_list (pv 2) pe_int (fun _ _ => rfl)) (pa_cons (pe_ix ix_list (pv 2) pe_int (fun _ _ => rfl)) pa_nil))) pa_nil)))) pss_nil)
      (pss_one (ps_ret (pe_lst (pa_cons (pe_meth (pv 0) T.cb mC GC hr2 bC .nil pass0 (pa_cons (pe_ix ix_list (pv 2) pe_int (fun _ _ => rfl)) (pa_cons (pe_ix ix_list (pv 2) pe_int (fun _ _ => rfl)) pa_nil))) pa_nil))))))), ?_⟩
    generalize hl : c :: args = l at As k
    cases As with
    | begin => cases hl; exact absurd hlo (by decide)
    | add w x y m hw hx hy hm => cases hl; exact absurd hlo (by decide)
    | set w i x y m hw hi hx hy hm => cases hl; exact absurd hlo (by decide)
    | drop w i hw hi => cases hl; exact absurd hlo (by decide)
    | erase w i hw hi => cases hl; exact absurd hlo (by decide)
    | open_ w m od lo hi hw hm ho hl' hh =>
      cases hl
      refine ⟨_, rfl, rfl, _, rfl, iteT ?_⟩
      refine ⟨_, rfl, L.B, dB, _, rfl, hB, rfl, _, rfl, gv, _, _, _, rfl, rfl, SqL.of hgv, rfl, _, rfl, gv, _, _, _, rfl, rfl, SqL.of hgv, rfl, _, rfl, gv, _, _, _, rfl, rfl, SqL.of hgv, rfl, _, rfl, gv, _, _, _, rfl, rfl, SqL.of hgv, rfl, _, rfl, gv, _, _, _, rfl, rfl, SqL.of hgv, rfl, ?_⟩
      exact ⟨tl, L, b, o, w, m, od, lo, hi, rfl, S, G, htl, one_of htl nf k⟩
    | next w r n hw hr' hn =>
      cases hl
      refine ⟨_, rfl, rfl, _, rfl, iteF ?_⟩
      refine ⟨_, rfl, rfl, _, rfl, iteT ?_⟩
      refine ⟨_, rfl, L.B, dB, _, rfl, hB, rfl, _, rfl, gv, _, _, _, rfl, rfl, SqL.of hgv, rfl, _, rfl, gv, _, _, _, rfl, rfl, SqL.of hgv, rfl, _, rfl, gv, _, _, _, rfl, rfl, SqL.of hgv, rfl, ?_⟩
      exact ⟨tl, L, b, w, r, n, rfl, S, G, fun H' L' p eB S' fr hp hp' => k H' L' p eB S' fr (ne_of_none htl hp).symm hp'⟩
    | back w r n hw hr' hn =>
      cases hl
      refine ⟨_, rfl, rfl, _, rfl, iteF ?_⟩
      refine ⟨_, rfl, rfl, _, rfl, iteF ?_⟩
      refine ⟨_, rfl, rfl, _, rfl, iteT ?_⟩
      refine ⟨_, rfl, L.B, dB, _, rfl, hB, rfl, _, rfl, gv, _, _, _, rfl, rfl, SqL.of hgv, rfl, _, rfl, gv, _, _, _, rfl, rfl, SqL.of hgv, rfl, _, rfl, gv, _, _, _, rfl, rfl, SqL.of hgv, rfl, ?_⟩
      exact ⟨tl, L, b, w, r, n, rfl, S, G, fun H' L' p eB S' fr hp hp' => k H' L' p eB S' fr (ne_of_none htl hp).symm hp'⟩
    | left w r hw hr' =>
      cases hl
      refine ⟨_, rfl, rfl, _, rfl, iteF ?_⟩
      refine ⟨_, rfl, rfl, _, rfl, iteF ?_⟩
      refine ⟨_, rfl, rfl, _, rfl, iteF ?_⟩
      refine ⟨_, rfl, rfl, _, rfl, iteT ?_⟩
      refine ⟨_, rfl, L.B, dB, _, rfl, hB, rfl, _, rfl, gv, _, _, _, rfl, rfl, SqL.of hgv, rfl, _, rfl, gv, _, _, _, rfl, rfl, SqL.of hgv, rfl, ?_⟩
      exact ⟨tl, L, b, w, r, rfl, S, G, fun H' sm => one_of htl nf k H' L rfl (S.same sm) (Frame.of_same sm)⟩
    | close w r hw hr' =>
      cases hl
      refine ⟨_, rfl, rfl, _, rfl, iteF ?_⟩
      refine ⟨_, rfl, rfl, _, rfl, iteF ?_⟩
      refine ⟨_, rfl, rfl, _, rfl, iteF ?_⟩
      refine ⟨_, rfl, rfl, _, rfl, iteF ?_⟩
      refine ⟨_, rfl, L.B, dB, _, rfl, hB, rfl, _, rfl, gv, _, _, _, rfl, rfl, SqL.of hgv, rfl, _, rfl, gv, _, _, _, rfl, rfl, SqL.of hgv, rfl, ?_⟩
      exact ⟨tl, L, b, w, r, rfl, S, one_of htl nf k⟩
theorem scAO : FnScope ["board", "call", "given"] ["board", "call", "given"] (defScope s_answer_of) := ⟨rfl, rfl, rfl, by decide +kernel, rfl, by decide +kernel, by decide +kernel⟩
theorem ok_ao {f g0 g1 g2 g3 g4 g5 : Addr} {fd f0 f1 f2 f3 f4 f5 : FuncData} (F : Fun K "answer_of" "answer_of" s_answer_of f fd) (T : Txt K mg C)
    (G0 : FnOk P w K mg base CX0 1 g0 f0 ["self"] (spBegin C)) (b0 : Binds K f0 ["self"] []) (m0 : Meth K C.B "begin" g0)
    (G1 : FnOk P w K mg base CX0 3 g1 f1 ["self", "w", "a", "b", "mask"] (spAdd C)) (b1 : Binds K f1 ["self", "w", "a", "b", "mask"] []) (m1 : Meth K C.B "add" g1)
    (G2 : FnOk P w K mg base CX0 2 g2 f2 ["self", "w", "i", "a", "b", "mask"] (spChange C)) (b2 : Binds K f2 ["self", "w", "i", "a", "b", "mask"] []) (m2 : Meth K C.B "change" g2)
    (G3 : FnOk P w K mg base CX0 2 g3 f3 ["self", "w", "i"] (spDrop C)) (b3 : Binds K f3 ["self", "w", "i"] []) (m3 : Meth K C.B "drop" g3)
    (G4 : FnOk P w K mg base CX0 2 g4 f4 ["self", "w", "i"] (spErase C)) (b4 : Binds K f4 ["self", "w", "i"] []) (m4 : Meth K C.B "erase" g4)
    (G5 : FnOk P w K mg base CX0 6 g5 f5 ["board", "call", "given"] (spAOf C 5)) (b5 : Binds K f5 ["board", "call", "given"] []) (m5 : mg "answer_on_readers" = some (.ref g5)) (k5 : PySem.W.keepIn K (.ref g5) = true) : FnOk P w K mg base CX0 7 f fd ["board", "call", "given"] (spAOf C 0) := by
  refine F.ok scAO (fun vs H Q E h => ?_) (fun cdv A outer s H vs Q E hr h => ?_)
  · obtain ⟨tl, L, b, o, gv, c, args, rfl, _⟩ := h
    rfl
  · obtain ⟨tl, L, b, o, gv, c, args, rfl, As, hlo, hgv, S, G, htl, nf, k⟩ := h
    obtain ⟨dB, hB⟩ := S.ob
    have hr3 : Room 3 _ := hr.mono (by decide)
    have hr2 : Room 2 _ := hr.mono (by decide)
    have hr1 : Room 1 _ := hr.mono (by decide)
    refine ⟨_, pss_cons (ps_if (pt_cmpR op_eq (pv 1) (pe_c rfl T.c_BEGIN) (nomark _)) (pss_one (ps_ret (pe_lst (pa_cons (pe_meth0 (pv 0) T.cb m0 G0 hr1 b0 .nil pass0) pa_nil)))) pss_nil)
      (pss_cons (ps_if (pt_cmpR op_eq (pv 1) (pe_c rfl T.c_ADD) (nomark _)) (pss_one (ps_ret (pe_lst (pa_cons (pe_meth (pv 0) T.cb m1 G1 hr3 b1 .nil pass0 (pa_cons (pe_ix ix_list (pv 2) pe_int (fun _ _ => rfl)) (pa_cons (pe_ix ix_list (pv 2) pe_int (fun _ _ => rfl)) (pa_cons (pe_ix ix_list (pv 2) pe_int (fun _ _ => rfl)) (pa_cons (pe_ix ix_list (pv 2) pe_int (fun _ _ => rfl)) pa_nil))))) pa_nil)))) pss_nil)
      (pss_cons (ps_if (pt_cmpR op_eq (pv 1) (pe_c rfl T.c_SET) (nomark _)) (pss_one (ps_ret (pe_lst (pa_cons (pe_meth (pv 0) T.cb m2 G2 hr2 b2 .nil pass0 (pa_cons (pe_ix ix_list (pv 2) pe_int (fun _ _ => rfl)) (pa_cons (pe_ix ix_list (pv 2) pe_int (fun _ _ => rfl)) (pa_cons (pe_ix ix_list (pv 2) pe_int (fun _ _ => rfl)) (pa_cons (pe_ix ix_list (pv 2) pe_int (fun _ _ => rfl)) (pa_cons (pe_ix ix_list (pv 2) pe_int (fun _ _ => rfl)) pa_nil)))))) pa_nil)))) pss_nil)
      (pss_cons (ps_if (pt_cmpR op_eq (pv 1) (pe_c rfl T.c_DROP) (nomark _)) (pss_one (ps_ret (pe_lst (pa_cons (pe_meth (pv 0) T.cb m3 G3 hr2 b3 .nil pass0 (pa_cons (pe_ix ix_list (pv 2) pe_int (fun _ _ => rfl)) (pa_cons (pe_ix ix_list (pv 2) pe_int (fun _ _ => rfl)) pa_nil))) pa_nil)))) pss_nil)
      (pss_cons (ps_if (pt_cmpR op_eq (pv 1) (pe_c rfl T.c_ERASE) (nomark _)) (pss_one (ps_ret (pe_lst (pa_cons (pe_meth (pv 0) T.cb m4 G4 hr2 b4 .nil pass0 (pa_cons (pe_ix ix_list (pv 2) pe_int (fun _ _ => rfl)) (pa_cons (pe_ix ix_list (pv 2) pe_int (fun _ _ => rfl)) pa_nil))) pa_nil)))) pss_nil)
      (pss_one (ps_ret (pe_call G5 hr rfl m5 k5 b5 .nil pass0 (pa_cons (pv 0) (pa_cons (pv 1) (pa_cons (pv 2) pa_nil)))))))))), ?_⟩
    have late : 5 ≤ c → tRet (tCall (spAOf C 5) [] E0 (tCons (tVar 0) (tCons (tVar 1) (tCons (tVar 2) tNil)))) { nx := fun _ H' => Q .non H', rt := Q } [some (.ref L.B), some (.int c), some (.ref gv)] H := fun h5 => by
      refine ⟨_, rfl, _, rfl, _, rfl, ?_⟩
      exact ⟨tl, L, b, o, gv, c, args, rfl, As, h5, hgv, S, G, htl, nf, k⟩
    generalize hl : c :: args = l at As k
    cases As with
    | begin =>
      cases hl
      refine ⟨_, rfl, rfl, _, rfl, iteT ?_⟩
      refine ⟨_, rfl, L.B, dB, _, rfl, hB, rfl, ?_⟩
      exact ⟨tl, L, b, o, rfl, S, htl, one_of htl nf k⟩
    | add w x y m hw hx hy hm =>
      cases hl
      refine ⟨_, rfl, rfl, _, rfl, iteF ?_⟩
      refine ⟨_, rfl, rfl, _, rfl, iteT ?_⟩
      refine ⟨_, rfl, L.B, dB, _, rfl, hB, rfl, _, rfl, gv, _, _, _, rfl, rfl, SqL.of hgv, rfl, _, rfl, gv, _, _, _, rfl, rfl, SqL.of hgv, rfl, _, rfl, gv, _, _, _, rfl, rfl, SqL.of hgv, rfl, _, rfl, gv, _, _, _, rfl, rfl, SqL.of hgv, rfl, ?_⟩
      exact ⟨tl, L, b, w, x, y, m, rfl, S, one_of htl nf k⟩
    | set w i x y m hw hi hx hy hm =>
      cases hl
      refine ⟨_, rfl, rfl, _, rfl, iteF ?_⟩
      refine ⟨_, rfl, rfl, _, rfl, iteF ?_⟩
      refine ⟨_, rfl, rfl, _, rfl, iteT ?_⟩
      refine ⟨_, rfl, L.B, dB, _, rfl, hB, rfl, _, rfl, gv, _, _, _, rfl, rfl, SqL.of hgv, rfl, _, rfl, gv, _, _, _, rfl, rfl, SqL.of hgv, rfl, _, rfl, gv, _, _, _, rfl, rfl, SqL.of hgv, rfl, _, rfl, gv, _, _, _, rfl, rfl, SqL.of hgv, rfl, _, rfl, gv, _, _, _, rfl, rfl, SqL.of hgv, rfl, ?_⟩
      exact ⟨tl, L, b, w, i, x, y, m, rfl, S, one_of htl nf k⟩
    | drop w i hw hi =>
      cases hl
      refine ⟨_, rfl, rfl, _, rfl, iteF ?_⟩
      refine ⟨_, rfl, rfl, _, rfl, iteF ?_⟩
      refine ⟨_, rfl, rfl, _, rfl, iteF ?_⟩
      refine ⟨_, rfl, rfl, _, rfl, iteT ?_⟩
      refine ⟨_, rfl, L.B, dB, _, rfl, hB, rfl, _, rfl, gv, _, _, _, rfl, rfl, SqL.of hgv, rfl, _, rfl, gv, _, _, _, rfl, rfl, SqL.of hgv, rfl, ?_⟩
      exact ⟨tl, L, b, w, i, rfl, S, one_of htl nf k⟩
    | erase w i hw hi =>
      cases hl
      refine ⟨_, rfl, rfl, _, rfl, iteF ?_⟩
      refine ⟨_, rfl, rfl, _, rfl, iteF ?_⟩
      refine ⟨_, rfl, rfl, _, rfl, iteF ?_⟩
      refine ⟨_, rfl, rfl, _, rfl, iteF ?_⟩
      refine ⟨_, rfl, rfl, _, rfl, iteT ?_⟩
      refine ⟨_, rfl, L.B, dB, _, rfl, hB, rfl, _, rfl, gv, _, _, _, rfl, rfl, SqL.of hgv, rfl, _, rfl, gv, _, _, _, rfl, rfl, SqL.of hgv, rfl, ?_⟩
      exact ⟨tl, L, b, w, i, rfl, S, G.th, one_of htl nf k⟩
    | open_ w m od lo hi hw hm ho hl' hh =>
      cases hl
      exact ⟨_, rfl, rfl, _, rfl, iteF ⟨_, rfl, rfl, _, rfl, iteF ⟨_, rfl, rfl, _, rfl, iteF ⟨_, rfl, rfl, _, rfl, iteF ⟨_, rfl, rfl, _, rfl, iteF (late (by decide))⟩⟩⟩⟩⟩
    | next w r n hw hr' hn =>
      cases hl
      exact ⟨_, rfl, rfl, _, rfl, iteF ⟨_, rfl, rfl, _, rfl, iteF ⟨_, rfl, rfl, _, rfl, iteF ⟨_, rfl, rfl, _, rfl, iteF ⟨_, rfl, rfl, _, rfl, iteF (late (by decide))⟩⟩⟩⟩⟩
    | back w r n hw hr' hn =>
      cases hl
      exact ⟨_, rfl, rfl, _, rfl, iteF ⟨_, rfl, rfl, _, rfl, iteF ⟨_, rfl, rfl, _, rfl, iteF ⟨_, rfl, rfl, _, rfl, iteF ⟨_, rfl, rfl, _, rfl, iteF (late (by decide))⟩⟩⟩⟩⟩
    | left w r hw hr' =>
      cases hl
      exact ⟨_, rfl, rfl, _, rfl, iteF ⟨_, rfl, rfl, _, rfl, iteF ⟨_, rfl, rfl, _, rfl, iteF ⟨_, rfl, rfl, _, rfl, iteF ⟨_, rfl, rfl, _, rfl, iteF (late (by decide))⟩⟩⟩⟩⟩
    | close w r hw hr' =>
      cases hl
      exact ⟨_, rfl, rfl, _, rfl, iteF ⟨_, rfl, rfl, _, rfl, iteF ⟨_, rfl, rfl, _, rfl, iteF ⟨_, rfl, rfl, _, rfl, iteF ⟨_, rfl, rfl, _, rfl, iteF (late (by decide))⟩⟩⟩⟩⟩
end
end My
set_option Elab.async false
set_option linter.all false
set_option maxRecDepth 100000
set_option maxHeartbeats 8000000
namespace My
open PySem PySem.Spec PyProof.Rows L2
open Kp200 (Thing key before sorted lastOf)
section
variable {C : Cl} {tl : Addr} {H : Hp} {L : Lay} {b : B}
/-- the other list is written -/
theorem BoardAt.told {xs ys : List V} (h : BoardAt C tl H L b) (ht : H tl = some (.lst xs)) : BoardAt C tl (upd H tl (.lst ys)) L b := by
  obtain ⟨dx, hb⟩ := h.ob
  have k : ∀ c o, H c = some o → c ≠ tl → (upd H tl (.lst ys)) c = some o := fun c o e n => by rw [upd_ne n]; exact e
  refine ⟨⟨dx, k _ _ hb (ne_of hb ht (by intro z; cases z))⟩, k _ _ h.lst h.nt, k _ _ h.dic (ne_of h.dic ht (by intro z; cases z)), h.nt, h.la, h.lr, h.nda, h.ndr, fun i c v h1 h2 => ?_, fun i c p h1 h2 => ?_⟩
  · obtain ⟨dc, hc⟩ := h.th i c v h1 h2
    exact ⟨dc, k _ _ hc (ne_of hc ht (by intro z; cases z))⟩
  · have rr := h.rd i c p h1 h2
    have na : c ≠ tl := by
      obtain ⟨d1, kp, pl, z1, _⟩ := id rr
      exact ne_of z1 ht (by intro z; cases z)
    exact rr.keep (x := tl) (by rw [ht]; intro xs z; cases z) (.inr (.inl rfl)) na k
end
def NB : List Int := [0, 4, 5, 2, 2, 5, 3, 3, 2, 2]
theorem asked_nb {p : Int} {args : List Int} (A : Asked (p :: args)) : 0 ≤ p ∧ p ≤ 9 ∧ atI (NB.map V.int) p = some (.int (args.length : Nat)) := by
  generalize hl : p :: args = l at A
  cases A <;> cases hl <;> exact ⟨by decide, by decide, rfl⟩
theorem cut_mid {done args rest : List Int} {p : Int} : cutV ((done ++ p :: (args ++ rest)).map V.int) (some ((done.length : Int) + 1)) (some ((done.length : Int) + 1 + (args.length : Nat))) = args.map V.int := by
  unfold cutV
  have e1 : ((done.length : Int) + 1) = ((done.length + 1 : Nat) : Int) := by omega
  have e2 : ((done.length : Int) + 1 + (args.length : Nat)) = ((done.length + 1 + args.length : Nat) : Int) := by omega
  have hl : ((done ++ p :: (args ++ rest)).map V.int).length = done.length + 1 + args.length + rest.length := by
    rw [List.length_map, List.length_append, List.length_cons, List.length_append]
    omega
  rw [e2, e1, HT.sIx_nat, HT.sIx_nat, hl, Nat.min_eq_left (by omega), Nat.min_eq_left (by omega), ← List.map_drop, ← List.map_take]
  congr 1
  have d : (done ++ p :: (args ++ rest)).drop (done.length + 1) = args ++ rest := by
    rw [List.drop_append]
    rw [List.drop_of_length_le (by omega), List.nil_append, show done.length + 1 - done.length = 1 by omega]
    rfl
  rw [d, show done.length + 1 + args.length - (done.length + 1) = args.length by omega, List.take_left']
  rfl
/-- answers -/
def spAns (K : PySem.W.Frag) : Sp := fun vs H Q _ => ∃ (a : Addr) (ns : List Int), vs = [.ref a] ∧ SqL K H a (ns.map V.int) ∧ PyKp204.answers_asked ns = true ∧ ∀ (H' : Hp) (p : Addr), H' p = some (.lst ((PyKp204.answers ns).map V.int)) → Q (.ref p) H'
/-- between two turns -/
structure Turn' (C : Cl) (ns : List Int) (H0 H : Hp) (a tl : Addr) (m : Nat) (σ : L2.St) : Prop where
  ex : ∃ (b : B) (h : Kp204.House) (L : Lay) (done rest : List Int) (cs : List (List (List Int))) (tol : List Int) (x4 x5 x6 : Option V),
    σ = [some (.ref a), some (.ref L.B), some (.ref tl), some (.int (done.length : Nat)), x4, x5, x6] ∧ ns = done ++ rest ∧ Stand rest cs ∧ (∀ c ∈ cs, Kp204Neutral.asked1 c = true) ∧ m = cs.length ∧ Sim b h ∧ BGood b ∧ BoardAt C tl H L b ∧
    H tl = some (.lst (tol.map V.int)) ∧ ¬ Foot L tl ∧ (∀ c o, H0 c = some o → H c = some o ∧ ¬ Foot L c ∧ c ≠ tl) ∧ tol ++ PyFlat.told (PyFlat.played nstep (some h) cs) = PyKp204.answers ns ∧ tol.length + 62 * cs.length ≤ 24800
section
variable {P : Program} {w : World} {K : PySem.W.Frag} {mg : Str → Option Value} {base : Heap} {C : Cl}
theorem scAns : FnScope ["calls", "board", "told", "place", "call", "behind", "answer"] ["calls"] (defScope s_answers) := ⟨rfl, rfl, rfl, by decide +kernel, rfl, by decide +kernel, by decide +kernel⟩
theorem ok_ans {f gI gA : Addr} {fd fI fA : FuncData} (F : Fun K "answers" "answers" s_answers f fd) (T : Txt K mg C) (M : Mk K C.B gI) (FI : Fun K "__init__" "Board.__init__" sB_init gI fI) (bI : Binds K fI ["self"] [])
    (GA : FnOk P w K mg base CX0 7 gA fA ["board", "call", "given"] (spAOf C 0)) (bA : Binds K fA ["board", "call", "given"] []) (mA : mg "answer_of" = some (.ref gA)) (kA : PySem.W.keepIn K (.ref gA) = true) : FnOk P w K mg base CX0 8 f fd ["calls"] (spAns K) := by
  have GI : FnOk P w K mg base CX0 1 gI fI ["self"] (spBInit C) := ok_binit FI T
  refine F.ok scAns (fun vs H Q E h => ?_) (fun cdv A outer s H vs Q E hr h => ?_)
  · obtain ⟨a, ns, rfl, _⟩ := h
    rfl
  · obtain ⟨a, ns, rfl, hS, hask, k⟩ := h
    have hr2 : Room 2 _ := hr.mono (by decide)
    obtain ⟨nbp, hnb, hnbS⟩ := T.nb
    refine ⟨_, pss_cons (ps_set (i := 1) scAns.nd rfl (Or.inl rfl) (pe_make0 M GI hr2 rfl T.mgB bI .nil pass0))
      (pss_cons (ps_set (i := 2) scAns.nd rfl (Or.inl rfl) (pe_lst pa_nil))
      (pss_cons (ps_set (i := 3) scAns.nd rfl (Or.inl rfl) pe_int)
      (pss_cons (ps_while PassesOwn.never (pt_cmpR op_lt (pv 3) (pe_callB call_len_seq (by rfl) T.len PySem.boot_len (pa_cons (pv 0) pa_nil)) (nomark _))
        (pss_cons (ps_set (i := 4) scAns.nd rfl (Or.inl rfl) (pe_ix ix_list (pv 0) (pv 3) (fun _ _ => rfl)))
        (pss_cons (ps_if (PW.pt (pw_or (pt_cmpR op_lt (pv 4) (pe_c rfl T.c_BEGIN) (nomark _)) (pw_or1 (pt_cmpR op_gt (pv 4) (pe_c rfl T.c_CLOSE_READER) (nomark _))))) pss_never pss_nil)
        (pss_cons (ps_set (i := 5) scAns.nd rfl (Or.inl rfl) (pe_op op_add (pe_op op_add (pv 3) pe_int) (pe_ix ix_tup (pe_glob (v := V.ref nbp) rfl hnb rfl) (pv 4) (fun _ _ => rfl))))
        (pss_cons (ps_set (i := 6) scAns.nd rfl (Or.inl rfl) (pe_call GA hr rfl mA kA bA .nil pass0 (pa_cons (pv 1) (pa_cons (pv 4) (pa_cons (pe_slice sl_list (pv 0) (po_some (pe_op op_add (pv 3) pe_int)) (po_some (pv 5))) pa_nil)))))
        (pss_cons (ps_expr (pe_bm PySem.F.plainAttrs_list PySem.F.slot_list_append PySem.F.type_list_append mt_append (pv 2) (pa_cons (pe_callB call_len_seq (by rfl) T.len PySem.boot_len (pa_cons (pv 6) pa_nil)) pa_nil)))
        (pss_cons (ps_expr (pe_bm PySem.F.plainAttrs_list PySem.F.slot_list_extend PySem.F.type_list_extend mt_extend (pv 2) (pa_cons (pv 6) pa_nil)))
        (pss_one (ps_set (i := 3) scAns.nd rfl (Or.inl rfl) (pv 5))))))))))
      (pss_one (ps_ret (pv 2)))))), ?_⟩
    obtain ⟨cs0, st0, as0, ln0, bg0, an0⟩ := asked_open hask
    -- board = Board(); told = []; place = 0
    intro x dx nx ndx nex
    refine ⟨x, dx, rfl, upd_same, fun H1 lT dR h1 h2 h3 n1 n2 kp => ⟨rfl, ?_⟩⟩
    have s1 : Same H H1 := Same.made nx ndx kp
    have s0 : Same H (upd (upd H dx (.own x)) x (.ins C.B dx [])) := fun c o e => by rw [upd_ne (ne_of_none e nx), upd_ne (ne_of_none e ndx)]; exact e
    refine ⟨Nat.zero_le _, fun tl htl => ?_⟩
    have s2 : Same H1 (upd H1 tl (.lst [])) := same_upd htl
    -- while
    refine ⟨fun m σ H' => Turn' C ns H H' a tl m σ, ⟨cs0.length, ⟨⟨[], [], 0⟩, house0, ⟨x, lT, dR, [], []⟩, [], ns, cs0, [], none, none, none, rfl, rfl, st0, as0, rfl, ⟨⟨rfl, rfl⟩, .nil, rfl⟩, ?_, ?_, ?_, ?_, ?_, ?_, ?_⟩⟩, ?_⟩
    · refine ⟨?_, ?_, ?_, ?_, ?_, ?_⟩
      · intro t h; cases h
      · decide
      · intro t h; cases h
      · exact List.Pairwise.nil
      · intro t h; cases h
      · decide
    · refine ⟨⟨dx, s2 _ _ h1⟩, s2 _ _ h2, s2 _ _ h3, ne_of_none h2 htl, rfl, rfl, List.Pairwise.nil, List.Pairwise.nil, fun j c t g1 _ => ?_, fun j c t g1 _ => ?_⟩
      · exact absurd (show ([] : List Addr)[j]? = some c from g1) (by simp)
      · exact absurd (show ([] : List Addr)[j]? = some c from g1) (by simp)
    · exact upd_same
    · rintro (z | z | z | z | z)
      · exact ne_of_none h1 htl z.symm
      · exact ne_of_none h2 htl z.symm
      · exact ne_of_none h3 htl z.symm
      · cases z
      · cases z
    · intro c o e
      refine ⟨s2 _ _ (s1 _ _ e), ?_, ne_of_none (s1 _ _ e) htl⟩
      rintro (z | z | z | z | z)
      · exact ne_of_none e nx z
      · exact ne_of_none (s0 _ _ e) n1 z
      · exact ne_of_none (s0 _ _ e) n2 z
      · cases z
      · cases z
    · rw [an0, begin_any bg0 (some house0)]
      rfl
    · show 0 + 62 * cs0.length ≤ 24800
      omega
    · rintro m σ Hc ⟨b, h, L, done, rest, cs, tol, x4, x5, x6, rfl, ens, st, as, rfl, S, G, Bd, htol, nft, kp', ean, hln⟩
      have sH : Same H Hc := fun c o e => (kp' c o e).1
      have hSc := sH.seq hS
      refine ⟨_, rfl, _, rfl, a, _, rfl, .inl hSc, _, _, rfl, rfl, _, rfl, ?_⟩
      rw [List.length_map]
      cases st with
      | nil =>
        rw [List.append_nil] at ens
        rw [decide_eq_false (show ¬ ((done.length : Nat) : Int) < ((ns.length : Nat) : Int) by rw [ens]; omega)]
        refine iteF ⟨_, rfl, ?_⟩
        rw [told_nil, List.append_nil] at ean
        rw [ean] at htol
        exact k Hc tl htol
      | cons hs ha t =>
        rename_i p n' args rest' cs'
        rw [decide_eq_true (show ((done.length : Nat) : Int) < ((ns.length : Nat) : Int) by rw [ens, List.length_append, List.length_cons]; omega)]
        obtain ⟨l', el, As⟩ := asked_of (as _ (List.mem_cons_self ..))
        have el : l' = p :: args := by cases el; rfl
        subst el
        obtain ⟨p0, p9, hnbi⟩ := asked_nb As
        refine iteT ⟨fun σ' H' => Turn' C ns H H' a tl cs'.length σ', fun σ' H' q => ⟨cs'.length, Nat.lt_succ_self _, q⟩, ?_⟩
        -- call = calls[place]
        have hpl : atI (ns.map V.int) ((done.length : Nat) : Int) = some (V.int p) := atI_nat (by rw [List.getElem?_map, ens, List.getElem?_append_right (Nat.le_refl _), Nat.sub_self]; rfl)
        refine ⟨_, rfl, _, rfl, a, _, _, _, rfl, rfl, hSc, hpl, ?_⟩
        refine ⟨_, rfl, _, _, rfl, rfl, _, rfl, ?_⟩
        rw [decide_eq_false (show ¬ p < 0 by omega)]
        refine iteF ?_
        refine ⟨_, rfl, _, _, rfl, rfl, _, rfl, ?_⟩
        rw [decide_eq_false (show ¬ (9 : Int) < p by omega)]
        refine iteF ?_
        -- behind = place + 1 + NUMBERS_BEHIND[call]
        refine ⟨_, rfl, _, _, rfl, rfl, _, rfl, nbp, _, _, _, rfl, rfl, hnbS Hc, hnbi, _, _, rfl, rfl, ?_⟩
        -- answer = answer_of(board, call, calls[place + 1:behind])
        refine ⟨_, rfl, _, rfl, _, rfl, _, rfl, _, _, rfl, rfl, _, rfl, _, rfl, _, rfl, a, _, rfl, hSc, fun gv hgv => ?_⟩
        have sg : Same Hc (upd Hc gv (.lst (cutV (ns.map V.int) (some (((done.length : Nat) : Int) + 1)) (some (((done.length : Nat) : Int) + 1 + (args.length : Nat)))))) := same_upd hgv
        refine ⟨tl, L, b, _, gv, p, args, rfl, As, p0, ?_, Bd.same sg, G, sg _ _ htol, nft, fun H3 L3 q eB B3 fr nq hq => ?_⟩
        · rw [upd_same, ens]
          exact congrArg (fun z => some (HO.lst z)) cut_mid
        obtain ⟨h', e1, S', G', lnA⟩ := step_sim As S G
        have fr2 : Frame Hc L H3 L3 := (Frame.of_same sg).trans fr
        obtain ⟨ht3, nf3⟩ := fr2 tl _ htol nft
        -- told.append(len(answer))
        have hcs : (([p :: args] :: cs').length : Nat) = cs'.length + 1 := rfl
        refine ⟨_, rfl, .inl ⟨rfl, _, SqL.of ht3⟩, _, rfl, q, _, rfl, .inl (SqL.of hq), tl, _, _, rfl, rfl, ht3, (by rw [List.length_map]; exact Nat.lt_of_le_of_lt (by omega : tol.length ≤ 24800) (by decide)), ?_⟩
        -- told.extend(answer)
        have hq2 : (upd H3 tl (.lst (tol.map V.int ++ [V.int (((mStep b (p :: args)).2.map V.int).length : Nat)]))) q = some (.lst ((mStep b (p :: args)).2.map V.int)) := by rw [upd_ne nq]; exact hq
        refine ⟨_, rfl, .inl ⟨rfl, _, SqL.of upd_same⟩, _, rfl, tl, q, _, _, rfl, rfl, upd_same, hq2, ?_, ?_⟩
        · rw [List.length_append, List.length_map, List.length_map]
          show tol.length + 1 + (mStep b (p :: args)).2.length ≤ sizeLine
          exact Nat.le_trans (by omega : tol.length + 1 + (mStep b (p :: args)).2.length ≤ 24900) (by decide)
        -- place = behind
        refine ⟨_, rfl, ?_⟩
        refine ⟨(mStep b (p :: args)).1, h', L3, done ++ p :: args, rest', cs', tol ++ (((mStep b (p :: args)).2.length : Int) :: (mStep b (p :: args)).2), some (.int p), some (.int (((done.length : Nat) : Int) + 1 + ((args.length : Nat) : Int))), some (.ref q), ?_, ?_, t, fun c hc => as c (List.mem_cons_of_mem _ hc), rfl, S', G', ?_, ?_, nf3, ?_, ?_, ?_⟩
        · rw [eB]
          have el : ((done.length : Nat) : Int) + 1 + ((args.length : Nat) : Int) = (((done ++ p :: args).length : Nat) : Int) := by
            rw [List.length_append, List.length_cons]
            omega
          rw [← el]
          rfl
        · rw [ens, List.append_assoc]
          rfl
        · rw [upd_upd]
          exact B3.told ht3
        · rw [upd_same]
          rw [List.map_append, List.map_cons, List.append_assoc, List.length_map]
          rfl
        · intro c o e
          obtain ⟨e1, n1, n2⟩ := kp' c o e
          obtain ⟨e3, n3⟩ := fr2 c o e1 n1
          exact ⟨by rw [upd_ne n2, upd_ne n2]; exact e3, n3, n2⟩
        · rw [← ean, told_cons, e1, List.append_assoc]
        · rw [List.length_append, List.length_cons]
          rw [hcs] at hln
          omega
end
end My
set_option Elab.async false
set_option linter.all false
set_option maxRecDepth 100000
set_option maxHeartbeats 8000000
namespace My
open PySem PySem.Spec PyProof.Rows L2
theorem all_mk {P : Program} {w : World} {K : PySem.W.Frag} {h : Heap} {mg : Str → Option Value} {fa : Addr} (X : K.In h) (G : h.Ns mainGlobals mg) (hfa : mg "answers" = some (.ref fa))
    {C1 C2 C3 : Addr}
    {f1 : Addr} {od1 an1 : Option Addr} {sl1 : Array (Option Value)} {oc1 kV1 dc1 pm1 cd1 ct1 : Value}
    {f2 : Addr} {od2 an2 : Option Addr} {sl2 : Array (Option Value)} {oc2 kV2 dc2 pm2 cd2 ct2 : Value}
    {f3 : Addr} {od3 an3 : Option Addr} {sl3 : Array (Option Value)} {oc3 kV3 dc3 pm3 cd3 ct3 : Value}
    {f4 : Addr} {od4 an4 : Option Addr} {sl4 : Array (Option Value)} {oc4 kV4 dc4 pm4 cd4 ct4 : Value}
    {f5 : Addr} {od5 an5 : Option Addr} {sl5 : Array (Option Value)} {oc5 kV5 dc5 pm5 cd5 ct5 : Value}
    {f6 : Addr} {od6 an6 : Option Addr} {sl6 : Array (Option Value)} {oc6 kV6 dc6 pm6 cd6 ct6 : Value}
    {f7 : Addr} {od7 an7 : Option Addr} {sl7 : Array (Option Value)} {oc7 kV7 dc7 pm7 cd7 ct7 : Value}
    {f8 : Addr} {od8 an8 : Option Addr} {sl8 : Array (Option Value)} {oc8 kV8 dc8 pm8 cd8 ct8 : Value}
    {f9 : Addr} {od9 an9 : Option Addr} {sl9 : Array (Option Value)} {oc9 kV9 dc9 pm9 cd9 ct9 : Value}
    {f10 : Addr} {od10 an10 : Option Addr} {sl10 : Array (Option Value)} {oc10 kV10 dc10 pm10 cd10 ct10 : Value}
    {f11 : Addr} {od11 an11 : Option Addr} {sl11 : Array (Option Value)} {oc11 kV11 dc11 pm11 cd11 ct11 : Value}
    {f12 : Addr} {od12 an12 : Option Addr} {sl12 : Array (Option Value)} {oc12 kV12 dc12 pm12 cd12 ct12 : Value}
    {f13 : Addr} {od13 an13 : Option Addr} {sl13 : Array (Option Value)} {oc13 kV13 dc13 pm13 cd13 ct13 : Value}
    {f14 : Addr} {od14 an14 : Option Addr} {sl14 : Array (Option Value)} {oc14 kV14 dc14 pm14 cd14 ct14 : Value}
    {f15 : Addr} {od15 an15 : Option Addr} {sl15 : Array (Option Value)} {oc15 kV15 dc15 pm15 cd15 ct15 : Value}
    {f16 : Addr} {od16 an16 : Option Addr} {sl16 : Array (Option Value)} {oc16 kV16 dc16 pm16 cd16 ct16 : Value}
    {f17 : Addr} {od17 an17 : Option Addr} {sl17 : Array (Option Value)} {oc17 kV17 dc17 pm17 cd17 ct17 : Value}
    {f18 : Addr} {od18 an18 : Option Addr} {sl18 : Array (Option Value)} {oc18 kV18 dc18 pm18 cd18 ct18 : Value}
    {f19 : Addr} {od19 an19 : Option Addr} {sl19 : Array (Option Value)} {oc19 kV19 dc19 pm19 cd19 ct19 : Value}
    {f20 : Addr} {od20 an20 : Option Addr} {sl20 : Array (Option Value)} {oc20 kV20 dc20 pm20 cd20 ct20 : Value}
    {f21 : Addr} {od21 an21 : Option Addr} {sl21 : Array (Option Value)} {oc21 kV21 dc21 pm21 cd21 ct21 : Value}
    {f22 : Addr} {od22 an22 : Option Addr} {sl22 : Array (Option Value)} {oc22 kV22 dc22 pm22 cd22 ct22 : Value}
    {f23 : Addr} {od23 an23 : Option Addr} {sl23 : Array (Option Value)} {oc23 kV23 dc23 pm23 cd23 ct23 : Value}
    {f24 : Addr} {od24 an24 : Option Addr} {sl24 : Array (Option Value)} {oc24 kV24 dc24 pm24 cd24 ct24 : Value}
    {f25 : Addr} {od25 an25 : Option Addr} {sl25 : Array (Option Value)} {oc25 kV25 dc25 pm25 cd25 ct25 : Value}
    {f26 : Addr} {od26 an26 : Option Addr} {sl26 : Array (Option Value)} {oc26 kV26 dc26 pm26 cd26 ct26 : Value}
    {f27 : Addr} {od27 an27 : Option Addr} {sl27 : Array (Option Value)} {oc27 kV27 dc27 pm27 cd27 ct27 : Value}
    {f28 : Addr} {od28 an28 : Option Addr} {sl28 : Array (Option Value)} {oc28 kV28 dc28 pm28 cd28 ct28 : Value}
    {f29 : Addr} {od29 an29 : Option Addr} {sl29 : Array (Option Value)} {oc29 kV29 dc29 pm29 cd29 ct29 : Value}
    {t_BEGIN : Tok}
    {t_ADD : Tok}
    {t_SET : Tok}
    {t_DROP : Tok}
    {t_ERASE : Tok}
    {t_OPEN_READER : Tok}
    {t_READ_ON : Tok}
    {t_READ_BACK : Tok}
    {t_COUNT_LEFT : Tok}
    {t_CLOSE_READER : Tok}
    {t_NOT_THEIRS : Tok}
    {t_NOT_FOUND : Tok}
    {t_ERASED_BEFORE : Tok}
    {t_OUT_OF_RANGE : Tok}
    {t_NO_ROOM : Tok}
    {t_LAST_PERSON : Tok}
    {t_LAST_MASK : Tok}
    {t_LAST_NUMBER : Tok}
    {t_MOST_AT_ONCE : Tok}
    {t_MOST_READERS : Tok}
    {t_MOST_TOLD : Tok}
    {t_MOST_EVER : Tok}
    {t_AS_IT_WAS : Tok}
    {t_A_FALLING : Tok}
    {t_B_RISING : Tok}
    {t_B_FALLING : Tok}
    {nbp : Addr} {odn : Option Addr} {nn : Nat} {sln : Array (Option Value)} {u0 u1 u2 u3 u4 u5 u6 u7 u8 u9 : Tok}
    (aCT : PySem.W.nsIn K mainGlobals "Thing" = some (some (.ref C1)))
    (aCR : PySem.W.nsIn K mainGlobals "Reader" = some (some (.ref C2)))
    (aCB : PySem.W.nsIn K mainGlobals "Board" = some (some (.ref C3)))
    (a1 : PySem.W.findIn K (.ref C1) "__init__" = some (some (.ref f1)))
    (i1 : PySem.W.isFn K (.ref f1) = true)
    (l1 : K.lookup f1 = some ⟨oc1, od1, .func (PySem.W.fnOf "__init__" "Thing.__init__" (defArgs sT_init) (defBody sT_init) (defScope sT_init) .none kV1 dc1 pm1 an1 cd1 ct1), sl1⟩)
    (c1 : PySem.W.codeIn K cd1 "Thing.__init__" = true)
    (k1 : PySem.W.keepIn K (.ref f1) = true)
    (a2 : PySem.W.findIn K (.ref C1) "seen_by" = some (some (.ref f2)))
    (i2 : PySem.W.isFn K (.ref f2) = true)
    (l2 : K.lookup f2 = some ⟨oc2, od2, .func (PySem.W.fnOf "seen_by" "Thing.seen_by" (defArgs sT_seen_by) (defBody sT_seen_by) (defScope sT_seen_by) .none kV2 dc2 pm2 an2 cd2 ct2), sl2⟩)
    (c2 : PySem.W.codeIn K cd2 "Thing.seen_by" = true)
    (k2 : PySem.W.keepIn K (.ref f2) = true)
    (a3 : PySem.W.findIn K (.ref C2) "__init__" = some (some (.ref f3)))
    (i3 : PySem.W.isFn K (.ref f3) = true)
    (l3 : K.lookup f3 = some ⟨oc3, od3, .func (PySem.W.fnOf "__init__" "Reader.__init__" (defArgs sR_init) (defBody sR_init) (defScope sR_init) .none kV3 dc3 pm3 an3 cd3 ct3), sl3⟩)
    (c3 : PySem.W.codeIn K cd3 "Reader.__init__" = true)
    (k3 : PySem.W.keepIn K (.ref f3) = true)
    (a4 : PySem.W.findIn K (.ref C2) "rank_of" = some (some (.ref f4)))
    (i4 : PySem.W.isFn K (.ref f4) = true)
    (l4 : K.lookup f4 = some ⟨oc4, od4, .func (PySem.W.fnOf "rank_of" "Reader.rank_of" (defArgs sR_rank_of) (defBody sR_rank_of) (defScope sR_rank_of) .none kV4 dc4 pm4 an4 cd4 ct4), sl4⟩)
    (c4 : PySem.W.codeIn K cd4 "Reader.rank_of" = true)
    (k4 : PySem.W.keepIn K (.ref f4) = true)
    (a5 : PySem.W.findIn K (.ref C2) "in_range" = some (some (.ref f5)))
    (i5 : PySem.W.isFn K (.ref f5) = true)
    (l5 : K.lookup f5 = some ⟨oc5, od5, .func (PySem.W.fnOf "in_range" "Reader.in_range" (defArgs sR_in_range) (defBody sR_in_range) (defScope sR_in_range) .none kV5 dc5 pm5 an5 cd5 ct5), sl5⟩)
    (c5 : PySem.W.codeIn K cd5 "Reader.in_range" = true)
    (k5 : PySem.W.keepIn K (.ref f5) = true)
    (a6 : PySem.W.findIn K (.ref C2) "is_ahead" = some (some (.ref f6)))
    (i6 : PySem.W.isFn K (.ref f6) = true)
    (l6 : K.lookup f6 = some ⟨oc6, od6, .func (PySem.W.fnOf "is_ahead" "Reader.is_ahead" (defArgs sR_is_ahead) (defBody sR_is_ahead) (defScope sR_is_ahead) .none kV6 dc6 pm6 an6 cd6 ct6), sl6⟩)
    (c6 : PySem.W.codeIn K cd6 "Reader.is_ahead" = true)
    (k6 : PySem.W.keepIn K (.ref f6) = true)
    (a7 : PySem.W.findIn K (.ref C2) "go_before" = some (some (.ref f7)))
    (i7 : PySem.W.isFn K (.ref f7) = true)
    (l7 : K.lookup f7 = some ⟨oc7, od7, .func (PySem.W.fnOf "go_before" "Reader.go_before" (defArgs sR_go_before) (defBody sR_go_before) (defScope sR_go_before) .none kV7 dc7 pm7 an7 cd7 ct7), sl7⟩)
    (c7 : PySem.W.codeIn K cd7 "Reader.go_before" = true)
    (k7 : PySem.W.keepIn K (.ref f7) = true)
    (a8 : PySem.W.findIn K (.ref C2) "go_behind" = some (some (.ref f8)))
    (i8 : PySem.W.isFn K (.ref f8) = true)
    (l8 : K.lookup f8 = some ⟨oc8, od8, .func (PySem.W.fnOf "go_behind" "Reader.go_behind" (defArgs sR_go_behind) (defBody sR_go_behind) (defScope sR_go_behind) .none kV8 dc8 pm8 an8 cd8 ct8), sl8⟩)
    (c8 : PySem.W.codeIn K cd8 "Reader.go_behind" = true)
    (k8 : PySem.W.keepIn K (.ref f8) = true)
    (a9 : PySem.W.findIn K (.ref C3) "__init__" = some (some (.ref f9)))
    (i9 : PySem.W.isFn K (.ref f9) = true)
    (l9 : K.lookup f9 = some ⟨oc9, od9, .func (PySem.W.fnOf "__init__" "Board.__init__" (defArgs sB_init) (defBody sB_init) (defScope sB_init) .none kV9 dc9 pm9 an9 cd9 ct9), sl9⟩)
    (c9 : PySem.W.codeIn K cd9 "Board.__init__" = true)
    (k9 : PySem.W.keepIn K (.ref f9) = true)
    (a10 : PySem.W.findIn K (.ref C3) "begin" = some (some (.ref f10)))
    (i10 : PySem.W.isFn K (.ref f10) = true)
    (l10 : K.lookup f10 = some ⟨oc10, od10, .func (PySem.W.fnOf "begin" "Board.begin" (defArgs sB_begin) (defBody sB_begin) (defScope sB_begin) .none kV10 dc10 pm10 an10 cd10 ct10), sl10⟩)
    (c10 : PySem.W.codeIn K cd10 "Board.begin" = true)
    (k10 : PySem.W.keepIn K (.ref f10) = true)
    (a11 : PySem.W.findIn K (.ref C3) "add" = some (some (.ref f11)))
    (i11 : PySem.W.isFn K (.ref f11) = true)
    (l11 : K.lookup f11 = some ⟨oc11, od11, .func (PySem.W.fnOf "add" "Board.add" (defArgs sB_add) (defBody sB_add) (defScope sB_add) .none kV11 dc11 pm11 an11 cd11 ct11), sl11⟩)
    (c11 : PySem.W.codeIn K cd11 "Board.add" = true)
    (k11 : PySem.W.keepIn K (.ref f11) = true)
    (a12 : PySem.W.findIn K (.ref C3) "change" = some (some (.ref f12)))
    (i12 : PySem.W.isFn K (.ref f12) = true)
    (l12 : K.lookup f12 = some ⟨oc12, od12, .func (PySem.W.fnOf "change" "Board.change" (defArgs sB_change) (defBody sB_change) (defScope sB_change) .none kV12 dc12 pm12 an12 cd12 ct12), sl12⟩)
    (c12 : PySem.W.codeIn K cd12 "Board.change" = true)
    (k12 : PySem.W.keepIn K (.ref f12) = true)
    (a13 : PySem.W.findIn K (.ref C3) "drop" = some (some (.ref f13)))
    (i13 : PySem.W.isFn K (.ref f13) = true)
    (l13 : K.lookup f13 = some ⟨oc13, od13, .func (PySem.W.fnOf "drop" "Board.drop" (defArgs sB_drop) (defBody sB_drop) (defScope sB_drop) .none kV13 dc13 pm13 an13 cd13 ct13), sl13⟩)
    (c13 : PySem.W.codeIn K cd13 "Board.drop" = true)
    (k13 : PySem.W.keepIn K (.ref f13) = true)
    (a14 : PySem.W.findIn K (.ref C3) "erase" = some (some (.ref f14)))
    (i14 : PySem.W.isFn K (.ref f14) = true)
    (l14 : K.lookup f14 = some ⟨oc14, od14, .func (PySem.W.fnOf "erase" "Board.erase" (defArgs sB_erase) (defBody sB_erase) (defScope sB_erase) .none kV14 dc14 pm14 an14 cd14 ct14), sl14⟩)
    (c14 : PySem.W.codeIn K cd14 "Board.erase" = true)
    (k14 : PySem.W.keepIn K (.ref f14) = true)
    (a15 : PySem.W.findIn K (.ref C3) "refusal_of_change" = some (some (.ref f15)))
    (i15 : PySem.W.isFn K (.ref f15) = true)
    (l15 : K.lookup f15 = some ⟨oc15, od15, .func (PySem.W.fnOf "refusal_of_change" "Board.refusal_of_change" (defArgs sB_refusal_of_change) (defBody sB_refusal_of_change) (defScope sB_refusal_of_change) .none kV15 dc15 pm15 an15 cd15 ct15), sl15⟩)
    (c15 : PySem.W.codeIn K cd15 "Board.refusal_of_change" = true)
    (k15 : PySem.W.keepIn K (.ref f15) = true)
    (a16 : PySem.W.findIn K (.ref C3) "take_away" = some (some (.ref f16)))
    (i16 : PySem.W.isFn K (.ref f16) = true)
    (l16 : K.lookup f16 = some ⟨oc16, od16, .func (PySem.W.fnOf "take_away" "Board.take_away" (defArgs sB_take_away) (defBody sB_take_away) (defScope sB_take_away) .none kV16 dc16 pm16 an16 cd16 ct16), sl16⟩)
    (c16 : PySem.W.codeIn K cd16 "Board.take_away" = true)
    (k16 : PySem.W.keepIn K (.ref f16) = true)
    (a17 : PySem.W.findIn K (.ref C3) "open_reader" = some (some (.ref f17)))
    (i17 : PySem.W.isFn K (.ref f17) = true)
    (l17 : K.lookup f17 = some ⟨oc17, od17, .func (PySem.W.fnOf "open_reader" "Board.open_reader" (defArgs sB_open_reader) (defBody sB_open_reader) (defScope sB_open_reader) .none kV17 dc17 pm17 an17 cd17 ct17), sl17⟩)
    (c17 : PySem.W.codeIn K cd17 "Board.open_reader" = true)
    (k17 : PySem.W.keepIn K (.ref f17) = true)
    (a18 : PySem.W.findIn K (.ref C3) "read_on" = some (some (.ref f18)))
    (i18 : PySem.W.isFn K (.ref f18) = true)
    (l18 : K.lookup f18 = some ⟨oc18, od18, .func (PySem.W.fnOf "read_on" "Board.read_on" (defArgs sB_read_on) (defBody sB_read_on) (defScope sB_read_on) .none kV18 dc18 pm18 an18 cd18 ct18), sl18⟩)
    (c18 : PySem.W.codeIn K cd18 "Board.read_on" = true)
    (k18 : PySem.W.keepIn K (.ref f18) = true)
    (a19 : PySem.W.findIn K (.ref C3) "read_back" = some (some (.ref f19)))
    (i19 : PySem.W.isFn K (.ref f19) = true)
    (l19 : K.lookup f19 = some ⟨oc19, od19, .func (PySem.W.fnOf "read_back" "Board.read_back" (defArgs sB_read_back) (defBody sB_read_back) (defScope sB_read_back) .none kV19 dc19 pm19 an19 cd19 ct19), sl19⟩)
    (c19 : PySem.W.codeIn K cd19 "Board.read_back" = true)
    (k19 : PySem.W.keepIn K (.ref f19) = true)
    (a20 : PySem.W.findIn K (.ref C3) "count_left" = some (some (.ref f20)))
    (i20 : PySem.W.isFn K (.ref f20) = true)
    (l20 : K.lookup f20 = some ⟨oc20, od20, .func (PySem.W.fnOf "count_left" "Board.count_left" (defArgs sB_count_left) (defBody sB_count_left) (defScope sB_count_left) .none kV20 dc20 pm20 an20 cd20 ct20), sl20⟩)
    (c20 : PySem.W.codeIn K cd20 "Board.count_left" = true)
    (k20 : PySem.W.keepIn K (.ref f20) = true)
    (a21 : PySem.W.findIn K (.ref C3) "close_reader" = some (some (.ref f21)))
    (i21 : PySem.W.isFn K (.ref f21) = true)
    (l21 : K.lookup f21 = some ⟨oc21, od21, .func (PySem.W.fnOf "close_reader" "Board.close_reader" (defArgs sB_close_reader) (defBody sB_close_reader) (defScope sB_close_reader) .none kV21 dc21 pm21 an21 cd21 ct21), sl21⟩)
    (c21 : PySem.W.codeIn K cd21 "Board.close_reader" = true)
    (k21 : PySem.W.keepIn K (.ref f21) = true)
    (a22 : PySem.W.findIn K (.ref C3) "refusal_of_reader" = some (some (.ref f22)))
    (i22 : PySem.W.isFn K (.ref f22) = true)
    (l22 : K.lookup f22 = some ⟨oc22, od22, .func (PySem.W.fnOf "refusal_of_reader" "Board.refusal_of_reader" (defArgs sB_refusal_of_reader) (defBody sB_refusal_of_reader) (defScope sB_refusal_of_reader) .none kV22 dc22 pm22 an22 cd22 ct22), sl22⟩)
    (c22 : PySem.W.codeIn K cd22 "Board.refusal_of_reader" = true)
    (k22 : PySem.W.keepIn K (.ref f22) = true)
    (a23 : PySem.W.findIn K (.ref C3) "refusal_of_reading" = some (some (.ref f23)))
    (i23 : PySem.W.isFn K (.ref f23) = true)
    (l23 : K.lookup f23 = some ⟨oc23, od23, .func (PySem.W.fnOf "refusal_of_reading" "Board.refusal_of_reading" (defArgs sB_refusal_of_reading) (defBody sB_refusal_of_reading) (defScope sB_refusal_of_reading) .none kV23 dc23 pm23 an23 cd23 ct23), sl23⟩)
    (c23 : PySem.W.codeIn K cd23 "Board.refusal_of_reading" = true)
    (k23 : PySem.W.keepIn K (.ref f23) = true)
    (a24 : PySem.W.findIn K (.ref C3) "rows_there" = some (some (.ref f24)))
    (i24 : PySem.W.isFn K (.ref f24) = true)
    (l24 : K.lookup f24 = some ⟨oc24, od24, .func (PySem.W.fnOf "rows_there" "Board.rows_there" (defArgs sB_rows_there) (defBody sB_rows_there) (defScope sB_rows_there) .none kV24 dc24 pm24 an24 cd24 ct24), sl24⟩)
    (c24 : PySem.W.codeIn K cd24 "Board.rows_there" = true)
    (k24 : PySem.W.keepIn K (.ref f24) = true)
    (a25 : PySem.W.findIn K (.ref C3) "rows_read" = some (some (.ref f25)))
    (i25 : PySem.W.isFn K (.ref f25) = true)
    (l25 : K.lookup f25 = some ⟨oc25, od25, .func (PySem.W.fnOf "rows_read" "Board.rows_read" (defArgs sB_rows_read) (defBody sB_rows_read) (defScope sB_rows_read) .none kV25 dc25 pm25 an25 cd25 ct25), sl25⟩)
    (c25 : PySem.W.codeIn K cd25 "Board.rows_read" = true)
    (k25 : PySem.W.keepIn K (.ref f25) = true)
    (a26 : PySem.W.nsIn K mainGlobals "numbers_of" = some (some (.ref f26)))
    (l26 : K.lookup f26 = some ⟨oc26, od26, .func (PySem.W.fnOf "numbers_of" "numbers_of" (defArgs s_numbers_of) (defBody s_numbers_of) (defScope s_numbers_of) .none kV26 dc26 pm26 an26 cd26 ct26), sl26⟩)
    (c26 : PySem.W.codeIn K cd26 "numbers_of" = true)
    (k26 : PySem.W.keepIn K (.ref f26) = true)
    (a27 : PySem.W.nsIn K mainGlobals "answer_of" = some (some (.ref f27)))
    (l27 : K.lookup f27 = some ⟨oc27, od27, .func (PySem.W.fnOf "answer_of" "answer_of" (defArgs s_answer_of) (defBody s_answer_of) (defScope s_answer_of) .none kV27 dc27 pm27 an27 cd27 ct27), sl27⟩)
    (c27 : PySem.W.codeIn K cd27 "answer_of" = true)
    (k27 : PySem.W.keepIn K (.ref f27) = true)
    (a28 : PySem.W.nsIn K mainGlobals "answer_on_readers" = some (some (.ref f28)))
    (l28 : K.lookup f28 = some ⟨oc28, od28, .func (PySem.W.fnOf "answer_on_readers" "answer_on_readers" (defArgs s_answer_on_readers) (defBody s_answer_on_readers) (defScope s_answer_on_readers) .none kV28 dc28 pm28 an28 cd28 ct28), sl28⟩)
    (c28 : PySem.W.codeIn K cd28 "answer_on_readers" = true)
    (k28 : PySem.W.keepIn K (.ref f28) = true)
    (a29 : PySem.W.nsIn K mainGlobals "answers" = some (some (.ref f29)))
    (l29 : K.lookup f29 = some ⟨oc29, od29, .func (PySem.W.fnOf "answers" "answers" (defArgs s_answers) (defBody s_answers) (defScope s_answers) .none kV29 dc29 pm29 an29 cd29 ct29), sl29⟩)
    (c29 : PySem.W.codeIn K cd29 "answers" = true)
    (k29 : PySem.W.keepIn K (.ref f29) = true)
    (pgT : PySem.W.plainGet K C1 Str.empty = true)
    (hdT : PySem.W.hasDictIn K C1 = true)
    (poT : PySem.W.plainOver K C1 = true)
    (saT : PySem.W.findIn K (.ref C1) "__setattr__" = some (some (.builtin "object.__setattr__")))
    (mkT : PySem.W.makesIn K C1 = true)
    (kcT : PySem.W.keepIn K (.ref C1) = true)
    (nT_owner : PySem.W.findIn K (.ref C1) "owner" = some none)
    (nT_a : PySem.W.findIn K (.ref C1) "a" = some none)
    (nT_b : PySem.W.findIn K (.ref C1) "b" = some none)
    (nT_mask : PySem.W.findIn K (.ref C1) "mask" = some none)
    (nT_there : PySem.W.findIn K (.ref C1) "there" = some none)
    (nT_erased : PySem.W.findIn K (.ref C1) "erased" = some none)
    (pgR : PySem.W.plainGet K C2 Str.empty = true)
    (hdR : PySem.W.hasDictIn K C2 = true)
    (poR : PySem.W.plainOver K C2 = true)
    (saR : PySem.W.findIn K (.ref C2) "__setattr__" = some (some (.builtin "object.__setattr__")))
    (mkR : PySem.W.makesIn K C2 = true)
    (kcR : PySem.W.keepIn K (.ref C2) = true)
    (nR_owner : PySem.W.findIn K (.ref C2) "owner" = some none)
    (nR_order : PySem.W.findIn K (.ref C2) "order" = some none)
    (nR_lo : PySem.W.findIn K (.ref C2) "lo" = some none)
    (nR_hi : PySem.W.findIn K (.ref C2) "hi" = some none)
    (nR_kept : PySem.W.findIn K (.ref C2) "kept" = some none)
    (nR_place : PySem.W.findIn K (.ref C2) "place" = some none)
    (pgB : PySem.W.plainGet K C3 Str.empty = true)
    (hdB : PySem.W.hasDictIn K C3 = true)
    (poB : PySem.W.plainOver K C3 = true)
    (saB : PySem.W.findIn K (.ref C3) "__setattr__" = some (some (.builtin "object.__setattr__")))
    (mkB : PySem.W.makesIn K C3 = true)
    (kcB : PySem.W.keepIn K (.ref C3) = true)
    (nB_things : PySem.W.findIn K (.ref C3) "things" = some none)
    (nB_how_many : PySem.W.findIn K (.ref C3) "how_many" = some none)
    (nB_readers : PySem.W.findIn K (.ref C3) "readers" = some none)
    (nB_opened : PySem.W.findIn K (.ref C3) "opened" = some none)
    (z_len : PySem.W.nsIn K mainGlobals "len" = some none)
    (z_sorted : PySem.W.nsIn K mainGlobals "sorted" = some none)
    (z_enumerate : PySem.W.nsIn K mainGlobals "enumerate" = some none)
    (v_BEGIN : PySem.W.nsIn K mainGlobals "BEGIN" = some (some (.int (0) t_BEGIN)))
    (v_ADD : PySem.W.nsIn K mainGlobals "ADD" = some (some (.int (1) t_ADD)))
    (v_SET : PySem.W.nsIn K mainGlobals "SET" = some (some (.int (2) t_SET)))
    (v_DROP : PySem.W.nsIn K mainGlobals "DROP" = some (some (.int (3) t_DROP)))
    (v_ERASE : PySem.W.nsIn K mainGlobals "ERASE" = some (some (.int (4) t_ERASE)))
    (v_OPEN_READER : PySem.W.nsIn K mainGlobals "OPEN_READER" = some (some (.int (5) t_OPEN_READER)))
    (v_READ_ON : PySem.W.nsIn K mainGlobals "READ_ON" = some (some (.int (6) t_READ_ON)))
    (v_READ_BACK : PySem.W.nsIn K mainGlobals "READ_BACK" = some (some (.int (7) t_READ_BACK)))
    (v_COUNT_LEFT : PySem.W.nsIn K mainGlobals "COUNT_LEFT" = some (some (.int (8) t_COUNT_LEFT)))
    (v_CLOSE_READER : PySem.W.nsIn K mainGlobals "CLOSE_READER" = some (some (.int (9) t_CLOSE_READER)))
    (v_NOT_THEIRS : PySem.W.nsIn K mainGlobals "NOT_THEIRS" = some (some (.int (-1) t_NOT_THEIRS)))
    (v_NOT_FOUND : PySem.W.nsIn K mainGlobals "NOT_FOUND" = some (some (.int (-2) t_NOT_FOUND)))
    (v_ERASED_BEFORE : PySem.W.nsIn K mainGlobals "ERASED_BEFORE" = some (some (.int (-17) t_ERASED_BEFORE)))
    (v_OUT_OF_RANGE : PySem.W.nsIn K mainGlobals "OUT_OF_RANGE" = some (some (.int (-22) t_OUT_OF_RANGE)))
    (v_NO_ROOM : PySem.W.nsIn K mainGlobals "NO_ROOM" = some (some (.int (-28) t_NO_ROOM)))
    (v_LAST_PERSON : PySem.W.nsIn K mainGlobals "LAST_PERSON" = some (some (.int (15) t_LAST_PERSON)))
    (v_LAST_MASK : PySem.W.nsIn K mainGlobals "LAST_MASK" = some (some (.int (65535) t_LAST_MASK)))
    (v_LAST_NUMBER : PySem.W.nsIn K mainGlobals "LAST_NUMBER" = some (some (.int (4294967295) t_LAST_NUMBER)))
    (v_MOST_AT_ONCE : PySem.W.nsIn K mainGlobals "MOST_AT_ONCE" = some (some (.int (64) t_MOST_AT_ONCE)))
    (v_MOST_READERS : PySem.W.nsIn K mainGlobals "MOST_READERS" = some (some (.int (8) t_MOST_READERS)))
    (v_MOST_TOLD : PySem.W.nsIn K mainGlobals "MOST_TOLD" = some (some (.int (20) t_MOST_TOLD)))
    (v_MOST_EVER : PySem.W.nsIn K mainGlobals "MOST_EVER" = some (some (.int (1000000) t_MOST_EVER)))
    (v_AS_IT_WAS : PySem.W.nsIn K mainGlobals "AS_IT_WAS" = some (some (.int (1) t_AS_IT_WAS)))
    (v_A_FALLING : PySem.W.nsIn K mainGlobals "A_FALLING" = some (some (.int (1) t_A_FALLING)))
    (v_B_RISING : PySem.W.nsIn K mainGlobals "B_RISING" = some (some (.int (2) t_B_RISING)))
    (v_B_FALLING : PySem.W.nsIn K mainGlobals "B_FALLING" = some (some (.int (3) t_B_FALLING)))
    (anb : PySem.W.nsIn K mainGlobals "NUMBERS_BEHIND" = some (some (.ref nbp)))
    (lnb : K.lookup nbp = some ⟨.type "tuple", odn, .seq #[.int 0 u0, .int 4 u1, .int 5 u2, .int 2 u3, .int 2 u4, .int 5 u5, .int 3 u6, .int 3 u7, .int 2 u8, .int 2 u9] nn, sln⟩)
    (gt : PySem.W.specialIn K (.ref f4) "__get__" = some (some (.builtin "function.__get__")))
    (tk : PySem.W.takesIn K (.ref f4) = some false)
    : ∃ fd : FuncData, (∀ (s : Shared) (us : List Value), us.length = (["calls"] : List Str).length → BindsTo s fd ⟨us, []⟩ ((["calls"] : List Str).zip us)) ∧ ∀ base : Heap, K.In base → base.Ns mainGlobals mg → FnOk P w K mg base CX0 8 fa fd ["calls"] (spAns K) := by
  have e := hfa.symm.trans (PySem.W.mg_of X G a29)
  cases e
  have T : Txt K mg ⟨C1, C2, C3⟩ := ⟨⟨pgT, hdT, poT, saT⟩, ⟨pgR, hdR, poR, saR⟩, ⟨pgB, hdB, poB, saB⟩, PySem.W.mg_of X G aCT, PySem.W.mg_of X G aCR, PySem.W.mg_of X G aCB, PySem.W.mg_none_of X G z_len, PySem.W.mg_none_of X G z_sorted, PySem.W.mg_none_of X G z_enumerate, ⟨nbp, PySem.W.mg_of X G anb, fun H => .inr ⟨_, _, _, lnb, rfl, rfl, (by show 10 ≤ sizeLine; decide), .cons ⟨_, rfl⟩ (.cons ⟨_, rfl⟩ (.cons ⟨_, rfl⟩ (.cons ⟨_, rfl⟩ (.cons ⟨_, rfl⟩ (.cons ⟨_, rfl⟩ (.cons ⟨_, rfl⟩ (.cons ⟨_, rfl⟩ (.cons ⟨_, rfl⟩ (.cons ⟨_, rfl⟩ (.nil))))))))))⟩⟩, nT_owner, nT_a, nT_b, nT_mask, nT_there, nT_erased, nR_owner, nR_order, nR_lo, nR_hi, nR_kept, nR_place, nB_things, nB_how_many, nB_readers, nB_opened, ⟨_, PySem.W.mg_of X G v_BEGIN⟩, ⟨_, PySem.W.mg_of X G v_ADD⟩, ⟨_, PySem.W.mg_of X G v_SET⟩, ⟨_, PySem.W.mg_of X G v_DROP⟩, ⟨_, PySem.W.mg_of X G v_ERASE⟩, ⟨_, PySem.W.mg_of X G v_OPEN_READER⟩, ⟨_, PySem.W.mg_of X G v_READ_ON⟩, ⟨_, PySem.W.mg_of X G v_READ_BACK⟩, ⟨_, PySem.W.mg_of X G v_COUNT_LEFT⟩, ⟨_, PySem.W.mg_of X G v_CLOSE_READER⟩, ⟨_, PySem.W.mg_of X G v_NOT_THEIRS⟩, ⟨_, PySem.W.mg_of X G v_NOT_FOUND⟩, ⟨_, PySem.W.mg_of X G v_ERASED_BEFORE⟩, ⟨_, PySem.W.mg_of X G v_OUT_OF_RANGE⟩, ⟨_, PySem.W.mg_of X G v_NO_ROOM⟩, ⟨_, PySem.W.mg_of X G v_LAST_PERSON⟩, ⟨_, PySem.W.mg_of X G v_LAST_MASK⟩, ⟨_, PySem.W.mg_of X G v_LAST_NUMBER⟩, ⟨_, PySem.W.mg_of X G v_MOST_AT_ONCE⟩, ⟨_, PySem.W.mg_of X G v_MOST_READERS⟩, ⟨_, PySem.W.mg_of X G v_MOST_TOLD⟩, ⟨_, PySem.W.mg_of X G v_MOST_EVER⟩, ⟨_, PySem.W.mg_of X G v_AS_IT_WAS⟩, ⟨_, PySem.W.mg_of X G v_A_FALLING⟩, ⟨_, PySem.W.mg_of X G v_B_RISING⟩, ⟨_, PySem.W.mg_of X G v_B_FALLING⟩⟩
  have F1 := fun_mk (st := sT_init) l1 c1 k1
  have b1 := F1.binds (ps := ["self", "owner", "a", "b", "mask"]) fun _ _ _ _ _ _ us hl => match us, hl with | [_, _, _, _, _], _ => rfl
  have F2 := fun_mk (st := sT_seen_by) l2 c2 k2
  have b2 := F2.binds (ps := ["self", "w"]) fun _ _ _ _ _ _ us hl => match us, hl with | [_, _], _ => rfl
  have F3 := fun_mk (st := sR_init) l3 c3 k3
  have b3 := F3.binds (ps := ["self", "owner", "order", "lo", "hi", "kept"]) fun _ _ _ _ _ _ us hl => match us, hl with | [_, _, _, _, _, _], _ => rfl
  have F4 := fun_mk (st := sR_rank_of) l4 c4 k4
  have b4 := F4.binds (ps := ["self", "row"]) fun _ _ _ _ _ _ us hl => match us, hl with | [_, _], _ => rfl
  have F5 := fun_mk (st := sR_in_range) l5 c5 k5
  have b5 := F5.binds (ps := ["self", "row"]) fun _ _ _ _ _ _ us hl => match us, hl with | [_, _], _ => rfl
  have F6 := fun_mk (st := sR_is_ahead) l6 c6 k6
  have b6 := F6.binds (ps := ["self", "row"]) fun _ _ _ _ _ _ us hl => match us, hl with | [_, _], _ => rfl
  have F7 := fun_mk (st := sR_go_before) l7 c7 k7
  have b7 := F7.binds (ps := ["self", "row"]) fun _ _ _ _ _ _ us hl => match us, hl with | [_, _], _ => rfl
  have F8 := fun_mk (st := sR_go_behind) l8 c8 k8
  have b8 := F8.binds (ps := ["self", "row"]) fun _ _ _ _ _ _ us hl => match us, hl with | [_, _], _ => rfl
  have F9 := fun_mk (st := sB_init) l9 c9 k9
  have b9 := F9.binds (ps := ["self"]) fun _ _ _ _ _ _ us hl => match us, hl with | [_], _ => rfl
  have F10 := fun_mk (st := sB_begin) l10 c10 k10
  have b10 := F10.binds (ps := ["self"]) fun _ _ _ _ _ _ us hl => match us, hl with | [_], _ => rfl
  have F11 := fun_mk (st := sB_add) l11 c11 k11
  have b11 := F11.binds (ps := ["self", "w", "a", "b", "mask"]) fun _ _ _ _ _ _ us hl => match us, hl with | [_, _, _, _, _], _ => rfl
  have F12 := fun_mk (st := sB_change) l12 c12 k12
  have b12 := F12.binds (ps := ["self", "w", "i", "a", "b", "mask"]) fun _ _ _ _ _ _ us hl => match us, hl with | [_, _, _, _, _, _], _ => rfl
  have F13 := fun_mk (st := sB_drop) l13 c13 k13
  have b13 := F13.binds (ps := ["self", "w", "i"]) fun _ _ _ _ _ _ us hl => match us, hl with | [_, _, _], _ => rfl
  have F14 := fun_mk (st := sB_erase) l14 c14 k14
  have b14 := F14.binds (ps := ["self", "w", "i"]) fun _ _ _ _ _ _ us hl => match us, hl with | [_, _, _], _ => rfl
  have F15 := fun_mk (st := sB_refusal_of_change) l15 c15 k15
  have b15 := F15.binds (ps := ["self", "w", "i"]) fun _ _ _ _ _ _ us hl => match us, hl with | [_, _, _], _ => rfl
  have F16 := fun_mk (st := sB_take_away) l16 c16 k16
  have b16 := F16.binds (ps := ["self", "thing"]) fun _ _ _ _ _ _ us hl => match us, hl with | [_, _], _ => rfl
  have F17 := fun_mk (st := sB_open_reader) l17 c17 k17
  have b17 := F17.binds (ps := ["self", "w", "mode", "order", "lo", "hi"]) fun _ _ _ _ _ _ us hl => match us, hl with | [_, _, _, _, _, _], _ => rfl
  have F18 := fun_mk (st := sB_read_on) l18 c18 k18
  have b18 := F18.binds (ps := ["self", "w", "r", "n"]) fun _ _ _ _ _ _ us hl => match us, hl with | [_, _, _, _], _ => rfl
  have F19 := fun_mk (st := sB_read_back) l19 c19 k19
  have b19 := F19.binds (ps := ["self", "w", "r", "n"]) fun _ _ _ _ _ _ us hl => match us, hl with | [_, _, _, _], _ => rfl
  have F20 := fun_mk (st := sB_count_left) l20 c20 k20
  have b20 := F20.binds (ps := ["self", "w", "r"]) fun _ _ _ _ _ _ us hl => match us, hl with | [_, _, _], _ => rfl
  have F21 := fun_mk (st := sB_close_reader) l21 c21 k21
  have b21 := F21.binds (ps := ["self", "w", "r"]) fun _ _ _ _ _ _ us hl => match us, hl with | [_, _, _], _ => rfl
  have F22 := fun_mk (st := sB_refusal_of_reader) l22 c22 k22
  have b22 := F22.binds (ps := ["self", "w", "r"]) fun _ _ _ _ _ _ us hl => match us, hl with | [_, _, _], _ => rfl
  have F23 := fun_mk (st := sB_refusal_of_reading) l23 c23 k23
  have b23 := F23.binds (ps := ["self", "w", "r", "n"]) fun _ _ _ _ _ _ us hl => match us, hl with | [_, _, _, _], _ => rfl
  have F24 := fun_mk (st := sB_rows_there) l24 c24 k24
  have b24 := F24.binds (ps := ["self"]) fun _ _ _ _ _ _ us hl => match us, hl with | [_], _ => rfl
  have F25 := fun_mk (st := sB_rows_read) l25 c25 k25
  have b25 := F25.binds (ps := ["self", "reader"]) fun _ _ _ _ _ _ us hl => match us, hl with | [_, _], _ => rfl
  have F26 := fun_mk (st := s_numbers_of) l26 c26 k26
  have b26 := F26.binds (ps := ["rows"]) fun _ _ _ _ _ _ us hl => match us, hl with | [_], _ => rfl
  have F27 := fun_mk (st := s_answer_of) l27 c27 k27
  have b27 := F27.binds (ps := ["board", "call", "given"]) fun _ _ _ _ _ _ us hl => match us, hl with | [_, _, _], _ => rfl
  have F28 := fun_mk (st := s_answer_on_readers) l28 c28 k28
  have b28 := F28.binds (ps := ["board", "call", "given"]) fun _ _ _ _ _ _ us hl => match us, hl with | [_, _, _], _ => rfl
  have F29 := fun_mk (st := s_answers) l29 c29 k29
  have b29 := F29.binds (ps := ["calls"]) fun _ _ _ _ _ _ us hl => match us, hl with | [_], _ => rfl
  refine ⟨PySem.W.fnOf "answers" "answers" (defArgs s_answers) (defBody s_answers) (defScope s_answers) .none kV29 dc29 pm29 an29 cd29 ct29, fun s us hu => match us, hu with | [_], _ => .of_eq rfl, fun base _ _ => ?_⟩
  have bm : BMeth K C2 "rank_of" f4 := ⟨⟨a4, i4, k4⟩, gt, tk, by decide +kernel⟩
  have Z : Rds P w K mg base ⟨C1, C2, C3⟩ f23 f25 f6 f8 f7 f26 _ _ _ _ _ _ :=
    ⟨ok_refRd F23 T F22 b22 ⟨a22, i22, k22⟩, b23, ⟨a23, i23, k23⟩,
     ok_read F25 T F24 b24 ⟨a24, i24, k24⟩ F5 b5 ⟨a5, i5, k5⟩ F2 b2 ⟨a2, i2, k2⟩ F4 b4 bm, b25, ⟨a25, i25, k25⟩,
     ok_ahead F6 T F4 b4 ⟨a4, i4, k4⟩, b6, ⟨a6, i6, k6⟩,
     ok_behind F8 T F4 b4 ⟨a4, i4, k4⟩, b8, ⟨a8, i8, k8⟩,
     ok_before F7 T F4 b4 ⟨a4, i4, k4⟩, b7, ⟨a7, i7, k7⟩,
     ok_num F26 T, b26, PySem.W.mg_of X G a26, k26⟩
  have GO := ok_open (P := P) (w := w) (base := base) F17 T ⟨mkR, a3, i3, kcR⟩ F3 b3 F24 b24 ⟨a24, i24, k24⟩
  have GN := ok_next F18 T Z
  have GB := ok_back F19 T Z
  have GL := ok_left F20 T Z F22 b22 ⟨a22, i22, k22⟩
  have GC := ok_close (P := P) (w := w) (base := base) F21 T F22 b22 ⟨a22, i22, k22⟩
  have GR := ok_ar F28 T GO b17 ⟨a17, i17, k17⟩ GN b18 ⟨a18, i18, k18⟩ GB b19 ⟨a19, i19, k19⟩ GL b20 ⟨a20, i20, k20⟩ GC b21 ⟨a21, i21, k21⟩
  have G0 := ok_begin (P := P) (w := w) (base := base) F10 T
  have G1 := ok_add (P := P) (w := w) (base := base) F11 T ⟨mkT, a1, i1, kcT⟩ F1 b1
  have G2 := ok_change (P := P) (w := w) (base := base) F12 T F15 b15 ⟨a15, i15, k15⟩
  have G3 := ok_drop (P := P) (w := w) (base := base) F13 T F15 b15 ⟨a15, i15, k15⟩ F16 b16 ⟨a16, i16, k16⟩
  have G4 := ok_erase (P := P) (w := w) (base := base) F14 T F16 b16 ⟨a16, i16, k16⟩
  have GA := ok_ao F27 T G0 b10 ⟨a10, i10, k10⟩ G1 b11 ⟨a11, i11, k11⟩ G2 b12 ⟨a12, i12, k12⟩ G3 b13 ⟨a13, i13, k13⟩ G4 b14 ⟨a14, i14, k14⟩ GR b28 (PySem.W.mg_of X G a28) k28
  exact ok_ans F29 T ⟨mkB, a9, i9, kcB⟩ F9 b9 GA b27 (PySem.W.mg_of X G a27) k27
end My
set_option Elab.async false
open PySem PySem.W PyProof.Rows
set_option maxRecDepth 100000 in
set_option maxHeartbeats 0 in
theorem PySem.Challenge.cw_maysee_s01_answers_holds : PySem.Challenge.rw_maysee_s01_answers.Holds := by
  w_on; k_headS; (case hw => exact ⟨[.list [.int 0]], by decide +kernel, by decide +kernel⟩)
  k_fillS
  refine L2.walk_specK (r := PySem.Challenge.rw_maysee_s01_answers) (k := 8) (CX := L2.CX0) (ps := ["calls"]) (sp := My.spAns) (by decide +kernel) rfl rfl ⟨rfl, by decide, by decide⟩ (fun w h Y => PySem.W.kIn_of Y) ?F ?S (fun _ _ _ _ z => z)
  case F =>
    intro w mg fa h Y KX G hmg
    refine' My.all_mk KX G hmg ?aCT ?aCR ?aCB ?a1 ?i1 ?l1 ?c1 ?k1 ?a2 ?i2 ?l2 ?c2 ?k2 ?a3 ?i3 ?l3 ?c3 ?k3 ?a4 ?i4 ?l4 ?c4 ?k4 ?a5 ?i5 ?l5 ?c5 ?k5 ?a6 ?i6 ?l6 ?c6 ?k6 ?a7 ?i7 ?l7 ?c7 ?k7 ?a8 ?i8 ?l8 ?c8 ?k8 ?a9 ?i9 ?l9 ?c9 ?k9 ?a10 ?i10 ?l10 ?c10 ?k10 ?a11 ?i11 ?l11 ?c11 ?k11 ?a12 ?i12 ?l12 ?c12 ?k12 ?a13 ?i13 ?l13 ?c13 ?k13 ?a14 ?i14 ?l14 ?c14 ?k14 ?a15 ?i15 ?l15 ?c15 ?k15 ?a16 ?i16 ?l16 ?c16 ?k16 ?a17 ?i17 ?l17 ?c17 ?k17 ?a18 ?i18 ?l18 ?c18 ?k18 ?a19 ?i19 ?l19 ?c19 ?k19 ?a20 ?i20 ?l20 ?c20 ?k20 ?a21 ?i21 ?l21 ?c21 ?k21 ?a22 ?i22 ?l22 ?c22 ?k22 ?a23 ?i23 ?l23 ?c23 ?k23 ?a24 ?i24 ?l24 ?c24 ?k24 ?a25 ?i25 ?l25 ?c25 ?k25 ?a26 ?l26 ?c26 ?k26 ?a27 ?l27 ?c27 ?k27 ?a28 ?l28 ?c28 ?k28 ?a29 ?l29 ?c29 ?k29 ?pgT ?hdT ?poT ?saT ?mkT ?kcT ?nT_owner ?nT_a ?nT_b ?nT_mask ?nT_there ?nT_erased ?pgR ?hdR ?poR ?saR ?mkR ?kcR ?nR_owner ?nR_order ?nR_lo ?nR_hi ?nR_kept ?nR_place ?pgB ?hdB ?poB ?saB ?mkB ?kcB ?nB_things ?nB_how_many ?nB_readers ?nB_opened ?z_len ?z_sorted ?z_enumerate ?v_BEGIN ?v_ADD ?v_SET ?v_DROP ?v_ERASE ?v_OPEN_READER ?v_READ_ON ?v_READ_BACK ?v_COUNT_LEFT ?v_CLOSE_READER ?v_NOT_THEIRS ?v_NOT_FOUND ?v_ERASED_BEFORE ?v_OUT_OF_RANGE ?v_NO_ROOM ?v_LAST_PERSON ?v_LAST_MASK ?v_LAST_NUMBER ?v_MOST_AT_ONCE ?v_MOST_READERS ?v_MOST_TOLD ?v_MOST_EVER ?v_AS_IT_WAS ?v_A_FALLING ?v_B_RISING ?v_B_FALLING ?anb ?lnb ?gt ?tk
    (case aCT => k_is); (case aCR => k_is); (case aCB => k_is); (case a1 => k_is); (case i1 => k_is); (case l1 => k_is)
    (case c1 => k_is); (case k1 => k_is); (case a2 => k_is); (case i2 => k_is); (case l2 => k_is); (case c2 => k_is)
    (case k2 => k_is); (case a3 => k_is); (case i3 => k_is); (case l3 => k_is); (case c3 => k_is); (case k3 => k_is)
    (case a4 => k_is); (case i4 => k_is); (case l4 => k_is); (case c4 => k_is); (case k4 => k_is); (case a5 => k_is)
    (case i5 => k_is); (case l5 => k_is); (case c5 => k_is); (case k5 => k_is); (case a6 => k_is); (case i6 => k_is)
    (case l6 => k_is); (case c6 => k_is); (case k6 => k_is); (case a7 => k_is); (case i7 => k_is); (case l7 => k_is)
    (case c7 => k_is); (case k7 => k_is); (case a8 => k_is); (case i8 => k_is); (case l8 => k_is); (case c8 => k_is)
    (case k8 => k_is); (case a9 => k_is); (case i9 => k_is); (case l9 => k_is); (case c9 => k_is); (case k9 => k_is)
    (case a10 => k_is); (case i10 => k_is); (case l10 => k_is); (case c10 => k_is); (case k10 => k_is); (case a11 => k_is)
    (case i11 => k_is); (case l11 => k_is); (case c11 => k_is); (case k11 => k_is); (case a12 => k_is); (case i12 => k_is)
    (case l12 => k_is); (case c12 => k_is); (case k12 => k_is); (case a13 => k_is); (case i13 => k_is); (case l13 => k_is)
    (case c13 => k_is); (case k13 => k_is); (case a14 => k_is); (case i14 => k_is); (case l14 => k_is); (case c14 => k_is)
    (case k14 => k_is); (case a15 => k_is); (case i15 => k_is); (case l15 => k_is); (case c15 => k_is); (case k15 => k_is)
    (case a16 => k_is); (case i16 => k_is); (case l16 => k_is); (case c16 => k_is); (case k16 => k_is); (case a17 => k_is)
    (case i17 => k_is); (case l17 => k_is); (case c17 => k_is); (case k17 => k_is); (case a18 => k_is); (case i18 => k_is)
    (case l18 => k_is); (case c18 => k_is); (case k18 => k_is); (case a19 => k_is); (case i19 => k_is); (case l19 => k_is)
    (case c19 => k_is); (case k19 => k_is); (case a20 => k_is); (case i20 => k_is); (case l20 => k_is); (case c20 => k_is)
    (case k20 => k_is); (case a21 => k_is); (case i21 => k_is); (case l21 => k_is); (case c21 => k_is); (case k21 => k_is)
    (case a22 => k_is); (case i22 => k_is); (case l22 => k_is); (case c22 => k_is); (case k22 => k_is); (case a23 => k_is)
    (case i23 => k_is); (case l23 => k_is); (case c23 => k_is); (case k23 => k_is); (case a24 => k_is); (case i24 => k_is)
    (case l24 => k_is); (case c24 => k_is); (case k24 => k_is); (case a25 => k_is); (case i25 => k_is); (case l25 => k_is)
    (case c25 => k_is); (case k25 => k_is); (case a26 => k_is); (case l26 => k_is); (case c26 => k_is); (case k26 => k_is)
    (case a27 => k_is); (case l27 => k_is); (case c27 => k_is); (case k27 => k_is); (case a28 => k_is); (case l28 => k_is)
    (case c28 => k_is); (case k28 => k_is); (case a29 => k_is); (case l29 => k_is); (case c29 => k_is); (case k29 => k_is)
    (case pgT => k_is); (case hdT => k_is); (case poT => k_is); (case saT => k_is); (case mkT => k_is); (case kcT => k_is)
    (case nT_owner => k_is); (case nT_a => k_is); (case nT_b => k_is); (case nT_mask => k_is); (case nT_there => k_is); (case nT_erased => k_is)
    (case pgR => k_is); (case hdR => k_is); (case poR => k_is); (case saR => k_is); (case mkR => k_is); (case kcR => k_is)
    (case nR_owner => k_is); (case nR_order => k_is); (case nR_lo => k_is); (case nR_hi => k_is); (case nR_kept => k_is); (case nR_place => k_is)
    (case pgB => k_is); (case hdB => k_is); (case poB => k_is); (case saB => k_is); (case mkB => k_is); (case kcB => k_is)
    (case nB_things => k_is); (case nB_how_many => k_is); (case nB_readers => k_is); (case nB_opened => k_is); (case z_len => k_is); (case z_sorted => k_is)
    (case z_enumerate => k_is); (case v_BEGIN => k_is); (case v_ADD => k_is); (case v_SET => k_is); (case v_DROP => k_is); (case v_ERASE => k_is)
    (case v_OPEN_READER => k_is); (case v_READ_ON => k_is); (case v_READ_BACK => k_is); (case v_COUNT_LEFT => k_is); (case v_CLOSE_READER => k_is); (case v_NOT_THEIRS => k_is)
    (case v_NOT_FOUND => k_is); (case v_ERASED_BEFORE => k_is); (case v_OUT_OF_RANGE => k_is); (case v_NO_ROOM => k_is); (case v_LAST_PERSON => k_is); (case v_LAST_MASK => k_is)
    (case v_LAST_NUMBER => k_is); (case v_MOST_AT_ONCE => k_is); (case v_MOST_READERS => k_is); (case v_MOST_TOLD => k_is); (case v_MOST_EVER => k_is); (case v_AS_IT_WAS => k_is)
    (case v_A_FALLING => k_is); (case v_B_RISING => k_is); (case v_B_FALLING => k_is); (case anb => k_is); (case lnb => k_is); (case gt => k_is)
    (case tk => k_is)
  case S =>
    intro K H xs a hO hwi hask hx
    cases hx with
    | cons h1 h2 =>
      cases h2
      cases h1 with
      | lst hs ha =>
        have e := L2.ints_dw a.1 _ ha
        subst e
        exact ⟨_, a.1, rfl, hs, hask, fun H' p hp => .lst (L2.SqL.of hp) (L2.dw_ints _)⟩
#print axioms PySem.Challenge.cw_maysee_s01_answers_holds
