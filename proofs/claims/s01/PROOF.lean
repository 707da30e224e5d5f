import PyProof.Rows.All
import Wide.All
import OpenK.AllK
import Wide.FinOn
import PyProof.EqAt
import PyProof.EqKinds
import PyProof.TupleCall
import KE.BitLaws
import Open.SpecLaws
import KE.OsHead
import KE.OsGo
import PyProof.SetKind
import PyProof.Rows.SetFrom
import KE.KDictSum
import PyProof.MeetsSeq2
import PySem.Challenge.RW_blanched_s01_answers
section
set_option Elab.async false
set_option linter.all false
set_option maxRecDepth 100000
namespace L2
open PySem PySem.Spec PyProof.Rows
abbrev Key := Sum Int Str
def keyIs : Key → Value → Bool
  | .inl k, v => Value.isInt k v
  | .inr x, v => Value.isStrOf x v
def keyH (w : World) : Key → Int
  | .inl k => hashInt k
  | .inr x => hashStr w x
theorem keyIs_shape : ∀ {k : Key} {v : Value}, keyIs k v = true → (∃ i t, k = Sum.inl i ∧ v = Value.int i t) ∨ (∃ x t, k = Sum.inr x ∧ v = Value.str x t)
  | .inl i, v, h => by
    obtain ⟨t, e⟩ := Value.isInt_shape (k := i) (v := v) h
    exact .inl ⟨i, t, rfl, e⟩
  | .inr x, v, h => by
    obtain ⟨t, e⟩ := Value.isStrOf_shape (x := x) (v := v) h
    exact .inr ⟨x, t, rfl, e⟩
theorem key_ll (a b : Int) : decide ((Sum.inl a : Key) = Sum.inl b) = (a == b) := by
  by_cases e : a = b
  · subst e; simp
  · have h : ¬ (Sum.inl a : Key) = Sum.inl b := fun q => e (Sum.inl.inj q)
    rw [decide_eq_false h]
    exact (beq_eq_false_iff_ne.mpr e).symm
theorem key_rr (a b : Str) : decide ((Sum.inr a : Key) = Sum.inr b) = decide (a = b) := by
  by_cases e : a = b
  · subst e; simp
  · have h : ¬ (Sum.inr a : Key) = Sum.inr b := fun q => e (Sum.inr.inj q)
    rw [decide_eq_false h, decide_eq_false e]
theorem key_lr (a : Int) (b : Str) : decide ((Sum.inl a : Key) = Sum.inr b) = false := decide_eq_false (fun q => nomatch q)
theorem key_rl (a : Str) (b : Int) : decide ((Sum.inr a : Key) = Sum.inl b) = false := decide_eq_false (fun q => nomatch q)
def mixKind (prog : Program) (w : World) : PySem.KeyKind prog w Key where
  is := keyIs
  hash := keyH w
  inj := fun v a b ha hb => by
    rcases keyIs_shape ha with ⟨i, t, rfl, rfl⟩ | ⟨x, t, rfl, rfl⟩
    · rcases keyIs_shape hb with ⟨j, u, rfl, e⟩ | ⟨y, u, rfl, e⟩
      · injection e with e1 _; rw [e1]
      · exact nomatch e
    · rcases keyIs_shape hb with ⟨j, u, rfl, e⟩ | ⟨y, u, rfl, e⟩
      · exact nomatch e
      · injection e with e1 _; rw [e1]
  byValue := fun k v h => by
    rcases keyIs_shape h with ⟨i, t, rfl, rfl⟩ | ⟨x, t, rfl, rfl⟩ <;> rfl
  pyHash := fun hv h => by
    rcases keyIs_shape hv with ⟨i, t, rfl, rfl⟩ | ⟨x, t, rfl, rfl⟩
    · exact wpAny_pyHash_int h
    · exact wpAny_pyHash_str h
  eqBool := fun hu hv h => by
    rcases keyIs_shape hu with ⟨i, t, rfl, rfl⟩ | ⟨x, t, rfl, rfl⟩
    · rcases keyIs_shape hv with ⟨j, u, rfl, rfl⟩ | ⟨y, u, rfl, rfl⟩
      · rw [key_ll] at h; exact wpAny_eqBool_int h
      · rw [key_lr] at h; exact SeqAt.EqAt.int_str i t y u _ _ _ _ h
    · rcases keyIs_shape hv with ⟨j, u, rfl, rfl⟩ | ⟨y, u, rfl, rfl⟩
      · rw [key_rl] at h; exact SeqAt.EqAt.str_int x t j u _ _ _ _ h
      · rw [key_rr] at h; exact wpAny_eqBool_str h
  «strs» := fun k x t v h => by
    rcases keyIs_shape h with ⟨i, u, rfl, e⟩ | ⟨y, u, rfl, e⟩
    · exact nomatch e
    · injection e with e1 _
      subst e1
      cases v <;> rfl
end L2
namespace L2
open PySem PySem.Spec PyProof.Rows
inductive V where
  | non | bl (b : Bool) | int (i : Int) | str (x : Str) | byt (b : Array UInt8) | flt (b : UInt64) | ref (a : Addr) | ty (n : String)
  deriving DecidableEq
def RelV : V → Value → Prop
  | .non, u => u = Value.none
  | .bl b, u => u = Value.bool b
  | .int i, u => ∃ t, u = Value.int i t
  | .str x, u => ∃ t, u = Value.str x t
  | .byt b, u => ∃ t, u = Value.bytes b t
  | .flt b, u => ∃ t, u = Value.float b t
  | .ref a, u => u = Value.ref a
  | .ty n, u => u = Value.type n
abbrev Vals : List V → List Value → Prop := Paired RelV
theorem Vals.length {xs : List V} {us : List Value} (r : Vals xs us) : xs.length = us.length := Paired.length r
theorem Vals.get : ∀ {xs : List V} {us : List Value} {i : Nat} {x : V}, Vals xs us → xs[i]? = some x → ∃ u, us[i]? = some u ∧ RelV x u
  | _, _, _, _, .nil, e => by simp at e
  | _, _, 0, _, .cons r _, e => by simp at e; subst e; exact ⟨_, rfl, r⟩
  | _, _, i + 1, x, .cons _ t, e => by
    obtain ⟨u, h1, h2⟩ := Vals.get (i := i) (x := x) t (by simpa using e)
    exact ⟨u, by simpa using h1, h2⟩
theorem Vals.set {x : V} {u : Value} (r : RelV x u) : ∀ {xs : List V} {us : List Value} (i : Nat), Vals xs us → Vals (xs.set i x) (us.set i u)
  | _, _, _, .nil => .nil
  | _, _, 0, .cons _ t => .cons r t
  | _, _, i + 1, .cons q t => .cons q (Vals.set r i t)
theorem Vals.append : ∀ {xs ys : List V} {us ws : List Value}, Vals xs us → Vals ys ws → Vals (xs ++ ys) (us ++ ws)
  | _, _, _, _, .nil, s => s
  | _, _, _, _, .cons r t, s => .cons r (Vals.append t s)
theorem Vals.take : ∀ {xs : List V} {us : List Value} (n : Nat), Vals xs us → Vals (xs.take n) (us.take n)
  | _, _, 0, _ => .nil
  | _, _, _ + 1, .nil => .nil
  | _, _, n + 1, .cons r t => .cons r (Vals.take n t)
theorem Vals.drop : ∀ {xs : List V} {us : List Value} (n : Nat), Vals xs us → Vals (xs.drop n) (us.drop n)
  | _, _, 0, r => r
  | _, _, _ + 1, .nil => .nil
  | _, _, n + 1, .cons _ t => Vals.drop n t
theorem Vals.none_of : ∀ {xs : List V} {us : List Value} {i : Nat}, Vals xs us → xs[i]? = none → us[i]? = none := fun {xs us i} r e => by
  have h1 := r.length
  have h2 : xs.length ≤ i := List.getElem?_eq_none_iff.mp e
  exact List.getElem?_eq_none_iff.mpr (by omega)
def RelO : Option V → Option Value → Prop
  | some v, some u => RelV v u
  | none, none => True
  | _, _ => False
def KV {κ : Type} : List (κ × V) → List (κ × Value) → Prop := Paired fun (p : κ × V) (q : κ × Value) => p.1 = q.1 ∧ RelV p.2 q.2
def kV : Key → V
  | .inl i => .int i
  | .inr x => .str x
inductive HO where
  /-- a list -/
  | lst (xs : List V)
  /-- a tuple (never changes) -/
  | tup (xs : List V)
  /-- a dict whose keys are ints and texts; one whose keys are tuples of ints and texts (the empty one is both) -/
  | dK (kvs : List (Key × V)) | dT (kvs : List (List Key × V))
  /-- a set of ints: its members, its size -/
  | set (S : Int → Bool) (n : Nat)
  /-- an instance of the class at C, its dict at dx, its attributes -/
  | ins (C dx : Addr) (fs : List (Str × V))
  /-- the dict of the instance at x -/
  | own (x : Addr)
  /-- the dict of an exception -/
  | xd (fs : List (Str × V))
  /-- a bound method, f of x -/
  | met (f x : Addr)
  /-- a range object lo, lo + 1, .. below hi -/
  | rng (lo hi : Int)
  /-- a thing that is known to the object (the script; a dict while a loop walks it): read, never written while it is so -/
  | frz (o : Obj) (u : HO)
  /-- a code object's table -/
  | tbl (ps : Array Value)
  /-- any other thing, by what is true of its one object (a def of one's own: SetO a S n := HO.ext fun h => ..) -/
  | ext (φ : Heap → Prop)
abbrev Hp := Addr → Option HO
def upd (H : Hp) (a : Addr) (o : HO) : Hp := fun b => if b = a then some o else H b
theorem upd_same {H : Hp} {a : Addr} {o : HO} : upd H a o a = some o := by unfold upd; rw [if_pos rfl]
theorem upd_ne {H : Hp} {a b : Addr} {o : HO} (h : b ≠ a) : upd H a o b = H b := by unfold upd; rw [if_neg h]
theorem upd_upd {H : Hp} {a : Addr} {o u : HO} : upd (upd H a o) a u = upd H a u := by
  funext b; unfold upd; split <;> rfl
theorem ne_of {H : Hp} {a b : Addr} {o u : HO} (h : H a = some o) (h' : H b = some u) (d : o ≠ u) : a ≠ b := by
  intro e; subst e; rw [h] at h'; exact d (Option.some.inj h')
theorem ne_of_none {H : Hp} {a b : Addr} {o : HO} (h : H a = some o) (h' : H b = none) : a ≠ b := by
  intro e; subst e; rw [h] at h'; cases h'
section
variable (P : Program) (w : World)
def ObjOk (H : Hp) (h : Heap) (a : Addr) : HO → Prop
  | .lst xs => xs.length ≤ sizeLine ∧ ∃ (its : List Value) (n : Nat), Vals xs its ∧ h.get? a = some { cls := .type "list", data := .seq its.toArray n }
  | .tup xs => xs.length ≤ sizeLine ∧ ∃ its : List Value, Vals xs its ∧ IsTup h a its.toArray
  | .dK kvs => kvs.length ≤ sizeLine ∧ (a == sysModules) = false ∧ ∃ vs, KV kvs vs ∧ h.DictOf (mixKind P w) a vs
  | .dT kvs => kvs.length ≤ sizeLine ∧ (a == sysModules) = false ∧ ∃ xs : List (List Key × Addr × Value),
      Paired (fun (p : List Key × V) (q : List Key × Addr × Value) => p.1 = q.1 ∧ H q.2.1 = some (.tup (p.1.map kV)) ∧ RelV p.2 q.2.2) kvs xs ∧
      ∃ o es ep, h.get? a = some o ∧ o.ExactDict ∧ o.data = .dict es ep ∧ es.toList = xs.map (entryOfKey (tupleKind (mixKind P w))) ∧ (xs.map (·.1)).Nodup
  | .set S n => h.SetOf (intKind P w) a S n
  | .ins C dx fs => H dx = some (.own a) ∧ fs.length ≤ 1000 ∧ dx ≠ a ∧ h.get? a = some (PySem.W.instObj C dx) ∧
      ∃ mA, h.Ns1 dx mA ∧ (∀ f, RelO (fs.lookup f) (mA f)) ∧ PySem.Within mA (fs.map (·.1))
  | .own _ => ∃ o, h.get? a = some o
  | .xd fs => ∃ mA, h.Ns1 a mA ∧ ∀ f, RelO (fs.lookup f) (mA f)
  | .rng lo hi => ∃ t u v, h.get? a = some { cls := .type "range", data := .fields #[.int lo t, .int hi u, .int 1 v] }
  | .frz o u => h.get? a = some o ∧ ObjOk H h a u
  | .tbl ps => h.get? a = some { cls := .none, data := .fields ps }
  | .met f x => h.get? a = some (PySem.W.methodObj (.ref f) (.ref x))
  | .ext φ => φ h ∧ (∃ o, h.get? a = some o) ∧ ∀ h1 h2 : Heap, φ h1 → (∀ o, h1.get? a = some o → h2.get? a = some o) → φ h2
def HOk (H : Hp) (h : Heap) : Prop := ∀ a o, H a = some o → ObjOk P w H h a o
end
section
variable {P : Program} {w : World} {H H' : Hp} {h h' : Heap} {a : Addr} {o : HO}
theorem ObjOk.lt (x : ObjOk P w H h a o) : a < h.objs.size := by
  cases o with
  | lst xs => obtain ⟨_, _, _, _, e⟩ := x; exact Heap.lt_size e
  | tup xs => obtain ⟨_, _, _, p⟩ := x; exact p.lt
  | dK kvs => obtain ⟨_, _, _, _, o, _, _, e, _⟩ := x; exact Heap.lt_size e
  | dT kvs => obtain ⟨_, _, _, _, o, _, _, e, _⟩ := x; exact Heap.lt_size e
  | set S n => obtain ⟨o, _, _, _, e, _⟩ := x; exact Heap.lt_size e
  | ins C dx fs => obtain ⟨_, _, _, e, _⟩ := x; exact Heap.lt_size e
  | own y => obtain ⟨_, e⟩ := x; exact Heap.lt_size e
  | xd fs => obtain ⟨_, ⟨_, _, _, e, _⟩, _⟩ := x; exact Heap.lt_size e
  | rng lo hi => obtain ⟨_, _, _, e⟩ := x; exact Heap.lt_size e
  | frz ob u => obtain ⟨e, _⟩ := x; exact Heap.lt_size e
  | tbl ps => exact Heap.lt_size (show h.get? a = some _ from x)
  | met f y => exact Heap.lt_size (show h.get? a = some _ from x)
  | ext φ => obtain ⟨_, ⟨_, e⟩, _⟩ := x; exact Heap.lt_size e
theorem Paired.mapP {α β : Type} {F G : α → β → Prop} : ∀ {l₁ : List α} {l₂ : List β}, Paired F l₁ l₂ → (∀ a b, F a b → G a b) → Paired G l₁ l₂
  | _, _, .nil, _ => .nil
  | _, _, .cons r t, f => .cons (f _ _ r) (Paired.mapP t f)
theorem ObjOk.stay (x : ObjOk P w H h a o) (k : ∀ b u, (b = a ∨ H b = some (.own a)) → h.get? b = some u → h'.get? b = some u)
    (ho : ∀ b, H b = some (.own a) → H' b = some (.own a)) (ht : ∀ b xs, H b = some (.tup xs) → H' b = some (.tup xs)) : ObjOk P w H' h' a o := by
  induction o with
  | lst xs => obtain ⟨z, its, n, r, e⟩ := x; exact ⟨z, its, n, r, k _ _ (.inl rfl) e⟩
  | tup xs => obtain ⟨z, its, r, ob, e, c⟩ := x; exact ⟨z, its, r, ob, k _ _ (.inl rfl) e, c⟩
  | dK kvs => obtain ⟨z, y, vs, r, ob, es, ep, e, c⟩ := x; exact ⟨z, y, vs, r, ob, es, ep, k _ _ (.inl rfl) e, c⟩
  | dT kvs =>
    obtain ⟨z, y, xs, r, ob, es, ep, e, c⟩ := x
    exact ⟨z, y, xs, Paired.mapP r fun p q z => ⟨z.1, ht _ _ z.2.1, z.2.2⟩, ob, es, ep, k _ _ (.inl rfl) e, c⟩
  | set S n => obtain ⟨ob, es, ep, t, e, c⟩ := x; exact ⟨ob, es, ep, t, k _ _ (.inl rfl) e, c⟩
  | ins C dx fs =>
    obtain ⟨d, z, ne, e, mA, ⟨od, es, ep, e2, c⟩, r⟩ := x
    exact ⟨ho _ d, z, ne, k _ _ (.inl rfl) e, mA, ⟨od, es, ep, k _ _ (.inr d) e2, c⟩, r⟩
  | own y => obtain ⟨ob, e⟩ := x; exact ⟨ob, k _ _ (.inl rfl) e⟩
  | xd fs => obtain ⟨mA, ⟨od, es, ep, e, c⟩, r⟩ := x; exact ⟨mA, ⟨od, es, ep, k _ _ (.inl rfl) e, c⟩, r⟩
  | rng lo hi => obtain ⟨t, u, v, e⟩ := x; exact ⟨t, u, v, k _ _ (.inl rfl) e⟩
  | frz ob u ih => obtain ⟨e, q⟩ := x; exact ⟨k _ _ (.inl rfl) e, ih q⟩
  | tbl ps =>
    have e : h.get? a = some { cls := .none, data := .fields ps } := x
    show h'.get? a = some { cls := .none, data := .fields ps }
    exact k a _ (.inl rfl) e
  | met f y =>
    have e : h.get? a = some (PySem.W.methodObj (.ref f) (.ref y)) := x
    show h'.get? a = some (PySem.W.methodObj (.ref f) (.ref y))
    exact k a _ (.inl rfl) e
  | ext φ => obtain ⟨p, ⟨o, e⟩, st⟩ := x; exact ⟨st _ _ p fun o q => k _ _ (.inl rfl) q, ⟨o, k _ _ (.inl rfl) e⟩, st⟩
theorem HOk.lt (x : HOk P w H h) (e : H a = some o) : a < h.objs.size := (x a o e).lt
theorem HOk.fresh (x : HOk P w H h) (e : h.objs.size ≤ a) : H a = none := by
  cases q : H a with
  | none => rfl
  | some u => exact absurd (Nat.lt_of_lt_of_le (x.lt q) e) (Nat.lt_irrefl _)
theorem HOk.kept (x : HOk P w H h) (k : ∀ b u, h.get? b = some u → h'.get? b = some u) : HOk P w H h' := fun a o e =>
  (x a o e).stay (fun b u _ q => k b u q) (fun _ q => q) fun _ _ q => q
theorem HOk.laid (x : HOk P w H h) (k : ∀ b u, h.get? b = some u → h'.get? b = some u) (hp : h.objs.size ≤ a) (new : ObjOk P w (upd H a o) h' a o) : HOk P w (upd H a o) h' := fun b u e => by
  have hn := x.fresh hp
  by_cases hb : b = a
  · subst hb; rw [upd_same] at e; cases e; exact new
  · rw [upd_ne hb] at e
    exact (x b u e).stay (fun c v _ q => k c v q) (fun c q => by rw [upd_ne (ne_of_none q hn)]; exact q) fun c xs q => by rw [upd_ne (ne_of_none q hn)]; exact q
end
def Rd (H : Hp) (a : Addr) (u : HO) : Prop := H a = some u ∨ ∃ o, H a = some (.frz o u)
theorem Rd.of {H : Hp} {a : Addr} {u : HO} (h : H a = some u) : Rd H a u := .inl h
theorem Rd.ok {P : Program} {w : World} {H : Hp} {h : Heap} {a : Addr} {u : HO} (r : Rd H a u) (x : HOk P w H h) : ObjOk P w H h a u := by
  rcases r with r | ⟨o, r⟩
  · exact x a u r
  · obtain ⟨_, q⟩ := x a _ r
    exact q
def Mut : Option HO → Prop
  | some (.lst _) => True
  | some (.dK _) => True
  | some (.dT _) => True
  | some (.set _ _) => True
  | some (.ins _ _ _) => True
  | some (.ext _) => True
  | _ => False
section
variable {P : Program} {w : World} {H : Hp} {h h' : Heap} {x e : Addr} {o' : HO}
theorem HOk.write (ok : HOk P w H h) (mu : Mut (H x)) (he : e = x ∨ H e = some (.own x)) (k : ∀ b u, b ≠ e → h.get? b = some u → h'.get? b = some u) (heo : ∃ u, h'.get? e = some u)
    (new : ObjOk P w (upd H x o') h' x o') : HOk P w (upd H x o') h' := fun b u q => by
  have nown : ∀ c y, H c = some (.own y) → c ≠ x := fun c y r z => by subst z; rw [r] at mu; exact mu
  have ntup : ∀ c xs, H c = some (.tup xs) → c ≠ x := fun c xs r z => by subst z; rw [r] at mu; exact mu
  by_cases hb : b = x
  · subst hb; rw [upd_same] at q; cases q; exact new
  · rw [upd_ne hb] at q
    by_cases hbe : b = e
    · have q' : H b = some (.own x) := by
        rcases he with z | z
        · exact absurd (hbe.trans z) hb
        · rw [hbe]; exact z
      rw [q] at q'; cases q'
      obtain ⟨v, hv⟩ := heo
      exact ⟨v, by rw [hbe]; exact hv⟩
    · refine (ok b u q).stay (fun c v hc r => k c v ?_ r) (fun c r => by rw [upd_ne (nown c b r)]; exact r) fun c xs r => by rw [upd_ne (ntup c xs r)]; exact r
      rcases hc with rfl | hc
      · exact hbe
      · rintro rfl
        rcases he with z | z
        · exact nown c b hc z
        · rw [hc] at z; cases z; exact hb rfl
end
structure Un (fs ex : List Addr) (H H' : Hp) (h h' : Heap) : Prop where
  keep : ∀ b o, h.get? b = some o → H b = none → b ∉ fs → b ∉ ex → h'.get? b = some o
  slot : ∀ b o, h.get? b = some o → H b = none → b ∈ fs → b ∉ ex → ∃ sl, h'.get? b = some { o with slots := sl }
  free : ∀ b o, h.get? b = some o → H b = none → b ∉ ex → H' b = none
  there : ∀ b o, h.get? b = some o → b ∉ ex → ∃ o', h'.get? b = some o'
  tups : ∀ b xs, H b = some (.tup xs) → H' b = some (.tup xs)
  frzs : ∀ b o u, H b = some (.frz o u) → H' b = some (.frz o u)
  tbls : ∀ b ps, H b = some (.tbl ps) → ∃ more, H' b = some (.tbl (ps ++ more))
section
variable {fs fs' ex ex' : List Addr} {H H1 H2 : Hp} {h h1 h2 h' : Heap} {a x e : Addr} {o : HO}
theorem Un.any (u : Un fs ex H H1 h h1) {b : Addr} {ob : Obj} (q : h.get? b = some ob) (n : H b = none) (hx : b ∉ ex) : ∃ sl, h1.get? b = some { ob with slots := sl } := by
  by_cases hb : b ∈ fs
  · exact u.slot b ob q n hb hx
  · exact ⟨ob.slots, u.keep b ob q n hb hx⟩
theorem Un.trans (a : Un fs ex H H1 h h1) (b : Un fs ex H1 H2 h1 h2) : Un fs ex H H2 h h2 where
  keep := fun c ob q n hc hx => b.keep c ob (a.keep c ob q n hc hx) (a.free c ob q n hx) hc hx
  slot := fun c ob q n hc hx => by
    obtain ⟨sl, e1⟩ := a.slot c ob q n hc hx
    obtain ⟨sl', e2⟩ := b.slot c _ e1 (a.free c ob q n hx) hc hx
    exact ⟨sl', e2⟩
  free := fun c ob q n hx => by
    obtain ⟨o', e1⟩ := a.there c ob q hx
    exact b.free c o' e1 (a.free c ob q n hx) hx
  there := fun c ob q hx => by
    obtain ⟨o', e1⟩ := a.there c ob q hx
    exact b.there c o' e1 hx
  tups := fun c xs q => b.tups c xs (a.tups c xs q)
  frzs := fun c ob xs q => b.frzs c ob xs (a.frzs c ob xs q)
  tbls := fun c ps q => by
    obtain ⟨m1, e1⟩ := a.tbls c ps q
    obtain ⟨m2, e2⟩ := b.tbls c _ e1
    exact ⟨m1 ++ m2, by rw [e2, Array.append_assoc]⟩
theorem Un.kept (k : ∀ b u, h.get? b = some u → h'.get? b = some u) : Un fs ex H H h h' :=
  ⟨fun b ob q _ _ _ => k b ob q, fun b ob q _ _ _ => ⟨ob.slots, k b ob q⟩, fun _ _ _ n _ => n, fun b ob q _ => ⟨ob, k b ob q⟩, fun _ _ q => q, fun _ _ _ q => q, fun _ ps q => ⟨#[], by rw [q]; simp⟩⟩
theorem Un.refl : Un fs ex H H h h := Un.kept fun _ _ q => q
theorem Un.laid (k : ∀ b u, h.get? b = some u → h'.get? b = some u) (hp : h.objs.size ≤ a) (hn : H a = none) : Un fs ex H (upd H a o) h h' where
  keep := fun b u q _ _ _ => k b u q
  slot := fun b u q _ _ _ => ⟨u.slots, k b u q⟩
  free := fun b u q n _ => by rw [upd_ne (Nat.ne_of_lt (Nat.lt_of_lt_of_le (Heap.lt_size q) hp))]; exact n
  there := fun b u q _ => ⟨u, k b u q⟩
  tups := fun b xs q => by rw [upd_ne (ne_of_none q hn)]; exact q
  frzs := fun b u xs q => by rw [upd_ne (ne_of_none q hn)]; exact q
  tbls := fun b ps q => ⟨#[], by rw [upd_ne (ne_of_none q hn), q]; simp⟩
theorem Un.write (mu : Mut (H x)) (he : e = x ∨ H e = some (.own x)) (k : ∀ b u, b ≠ e → h.get? b = some u → h'.get? b = some u) (heo : ∃ u, h'.get? e = some u) : Un fs ex H (upd H x o) h h' := by
  have hx : ∀ b, H b = none → b ≠ x := fun b n z => by subst z; rw [n] at mu; exact mu
  have hb : ∀ b, H b = none → b ≠ e := fun b n z => by
    subst z
    rcases he with r | r
    · exact hx b n r
    · rw [n] at r; cases r
  have hm : ∀ b u, H b = some u → ¬ Mut (some u) → b ≠ x := fun b u q nm z => by subst z; rw [q] at mu; exact nm mu
  refine ⟨fun b u q n _ _ => k b u (hb b n) q, fun b u q n _ _ => ⟨u.slots, k b u (hb b n) q⟩, fun b u q n _ => by rw [upd_ne (hx b n)]; exact n, fun b u q _ => ?_,
    fun b xs q => by rw [upd_ne (hm b _ q fun z => z)]; exact q, fun b u xs q => by rw [upd_ne (hm b _ q fun z => z)]; exact q, fun b ps q => ⟨#[], by rw [upd_ne (hm b _ q fun z => z), q]; simp⟩⟩
  by_cases hbe : b = e
  · subst hbe; exact heo
  · exact ⟨u, k b u hbe q⟩
theorem Un.mono (u : Un fs ex H H1 h h1) (hs : ∀ b ∈ fs, b ∈ fs') (hx : ∀ b ∈ ex, b ∈ ex') : Un fs' ex' H H1 h h1 :=
  ⟨fun b ob q n hb he => u.keep b ob q n (fun z => hb (hs b z)) fun z => he (hx b z), fun _ _ q n _ he => u.any q n fun z => he (hx _ z), fun b ob q n he => u.free b ob q n fun z => he (hx b z), fun b ob q he => u.there b ob q fun z => he (hx b z), u.tups, u.frzs, u.tbls⟩
end
def trk (h : Heap) (H : Hp) : List Addr := (List.range h.objs.size).filter fun a => (H a).isSome
def hidT (h : Heap) (H : Hp) : Heap := PySem.W.hideAll h (trk h H)
theorem hidT_size (h : Heap) (H : Hp) : (hidT h H).objs.size = h.objs.size := PySem.W.hideAll_size _ _
theorem hidT_get {h : Heap} {H : Hp} {b : Addr} {o : Obj} (e : h.get? b = some o) (n : H b = none) : (hidT h H).get? b = some o :=
  PySem.W.hideAll_get _ e fun hm => by
    have q : (H b).isSome = true := (List.mem_filter.mp hm).2
    rw [n] at q; simp at q
theorem of_hidT {h : Heap} {H : Hp} {b : Addr} {o : Obj} (e : (hidT h H).get? b = some o) : h.get? b = some o ∧ H b = none := by
  have e' : h.get? b = some o := PySem.W.of_hideAll (trk h H) e
  refine ⟨e', ?_⟩
  cases q : H b with
  | none => rfl
  | some x =>
    have hm : b ∈ trk h H := List.mem_filter.mpr ⟨List.mem_range.mpr (Heap.lt_size e'), by simp [q]⟩
    have z : (hidT h H).get? b = none := PySem.W.hideAll_none (trk h H) hm
    rw [z] at e; cases e
def allNews (g h : Heap) (L : Addr) : List (Addr × Obj) := (List.range h.objs.size).filterMap fun a => if a = L ∨ (g.get? a).isSome = true then none else (h.get? a).map fun o => (a, o)
def rest (g h : Heap) (L d : Addr) : List (Addr × Obj) := (allNews g h L).filter fun p => decide (p.1 ≠ d)
end L2
namespace L2
open PySem PySem.Spec PyProof.Rows
structure Mod (K : PySem.W.Frag) (mg : Str → Option Value) (base : Heap) : Prop where
  kin : K.In base
  glob : base.Ns mainGlobals mg
  blt : ∃ mb, base.Ns builtinsNs mb ∧ ∀ x : Str, x ≠ "__name__" → mb x = bootBuiltins x
  nolimit : base.NoLimit
structure Cx where
  prog : Program
  w : World
  K : PySem.W.Frag
  mg : Str → Option Value
  base : Heap
  A : Around
  N : List Str
  s_0 : Shared
  H_0 : Hp
  env : Env
  outer : List Env
  stack : List Env
  ex : List Addr
  fn : Str → Bool
  calm : Bool
  pn : List (Addr × Obj)
  xe : Value → Shared → Prop
def frs (l : List Env) : List Addr := l.filterMap (·.frame)
abbrev Cx.fs (X : Cx) : List Addr := frs X.outer
def Vis (sc : Scope) (x : Str) : Prop := sc.names.lookup x = some .local ∨ sc.names.lookup x = some .cell ∨ sc.names.lookup x = some .free
def Loc (sc : Scope) (x : Str) : Prop := sc.names.lookup x = some .local ∨ sc.names.lookup x = some .cell
def Look (env : Env) (h : Heap) (m : Str → Option Value) (x : Str) (u : Value) : Prop :=
  (env.kindOf x = some .local ∧ m x = some u) ∨ ((env.kindOf x = some .cell ∨ env.kindOf x = some .free) ∧ ∃ c, env.cells.lookup x = some c ∧ h.IsCell c (some u))
structure Cx.Ok (X : Cx) : Prop where
  mod : Mod X.K X.mg X.base
  kind : X.env.scope.kind = .function
  glob : X.env.globals = mainGlobals
  blt : X.env.builtins = builtinsNs
  above : X.s_0.heap.objs.size ≤ X.env.locals
  inj : ∀ x y c, X.env.cells.lookup x = some c → X.env.cells.lookup y = some c → x = y
  has : ∀ x, (X.env.kindOf x = some .cell ∨ X.env.kindOf x = some .free) → ∃ c, X.env.cells.lookup x = some c
  cab : ∀ x c, X.fn x = true → X.env.cells.lookup x = some c → X.s_0.heap.objs.size ≤ c
  hd : X.calm = true → X.A.handled = none
  frames : X.A.frames = some X.stack
  stk : X.stack = X.outer ∨ (X.stack = X.env :: X.outer ∧ X.env.frame = some X.env.locals)
  exf : ∀ b ∈ X.ex, b ≠ X.env.locals ∧ ∀ x c, X.env.cells.lookup x = some c → c ≠ b
  bs : ∀ b o, X.base.get? b = some o → X.s_0.heap.get? b = some o ∧ X.H_0 b = none
  bsz : X.base.objs.size ≤ X.s_0.heap.objs.size
  noex : ∀ b o, X.base.get? b = some o → b ∉ X.ex
  exfs : ∀ b ∈ X.ex, b ∉ X.fs
  funs : X.s_0.heap.FunFrames X.base X.outer
  frf : ∀ b ∈ X.fs, X.H_0 b = none
structure Inv (X : Cx) (pins : List (Addr × Obj)) (σ : List (Option V)) (H : Hp) (s : Shared) : Prop where
  ok : X.Ok
  os : s.os = X.s_0.os
  bare : AllBare s.gens
  base : Un X.fs X.ex X.H_0 H X.s_0.heap s.heap
  loc : ∃ m, s.heap.Ns X.env.locals m ∧ ∀ (i : Nat) (x : Str) (v : V), X.N[i]? = some x → σ[i]? = some (some v) → Vis X.env.scope x → ∃ u, RelV v u ∧ Look X.env s.heap m x u
  cell : ∀ x c, X.env.cells.lookup x = some c → ∃ v, s.heap.IsCell c v
  free : H X.env.locals = none
  freeC : ∀ x c, X.env.cells.lookup x = some c → H c = none
  pin : ∀ p ∈ X.pn ++ pins, s.heap.get? p.1 = some p.2 ∧ H p.1 = none ∧ p.1 ≠ X.env.locals ∧ p.1 ∉ X.fs ∧ ∀ v, p.2.data ≠ .cell v
  hok : HOk X.prog X.w H s.heap
  len : σ.length = X.N.length
section
variable {X : Cx} {pins : List (Addr × Obj)} {σ : List (Option V)} {H H' : Hp} {s : Shared} {h' : Heap}
theorem Cx.Ok.nofr (ok : X.Ok) {b : Addr} {o : Obj} (e : X.base.get? b = some o) : b ∉ X.fs := fun hb => by
  have := (ok.funs.mem hb).1
  rw [e] at this; cases this
theorem Inv.bs (I : Inv X pins σ H s) : ∀ b o, X.base.get? b = some o → s.heap.get? b = some o ∧ H b = none := fun b o e =>
  ⟨I.base.keep b o (I.ok.bs b o e).1 (I.ok.bs b o e).2 (I.ok.nofr e) (I.ok.noex b o e), I.base.free b o (I.ok.bs b o e).1 (I.ok.bs b o e).2 (I.ok.noex b o e)⟩
theorem Inv.bk (I : Inv X pins σ H s) : ∀ b o, X.base.get? b = some o → s.heap.get? b = some o := fun b o e => (I.bs b o e).1
theorem Inv.mod (I : Inv X pins σ H s) : Mod X.K X.mg X.base := I.ok.mod
theorem Inv.kIn (I : Inv X pins σ H s) : X.K.In s.heap := I.ok.mod.kin.keeps I.bk
theorem Inv.nolimit (I : Inv X pins σ H s) : s.heap.NoLimit := I.ok.mod.nolimit.keeps I.bk
theorem Inv.fr (I : Inv X pins σ H s) : ∃ m, Fr X.base X.env.locals s.heap m :=
  let ⟨m, hn, _⟩ := I.loc
  ⟨m, hn, I.bk, Nat.le_trans I.ok.bsz I.ok.above⟩
theorem Inv.lt (I : Inv X pins σ H s) : X.env.locals < s.heap.objs.size := let ⟨_, hn, _⟩ := I.loc; hn.lt
theorem Inv.sz (I : Inv X pins σ H s) : X.s_0.heap.objs.size ≤ s.heap.objs.size := Nat.le_trans I.ok.above (Nat.le_of_lt I.lt)
theorem Inv.nofs (I : Inv X pins σ H s) {a : Addr} (h : s.heap.objs.size ≤ a) : a ∉ X.fs := fun hb => by
  obtain ⟨_, o, ho, _⟩ := I.ok.funs.mem hb
  exact absurd (Nat.lt_of_lt_of_le (Heap.lt_size ho) (Nat.le_trans I.sz h)) (Nat.lt_irrefl _)
theorem Inv.cne (I : Inv X pins σ H s) : ∀ x c, X.env.cells.lookup x = some c → c ≠ X.env.locals := fun x c e z => by
  obtain ⟨v, o, ho, hd⟩ := I.cell x c e
  obtain ⟨m, ⟨o', es, ep, ho', hd', _⟩, _⟩ := I.loc
  rw [z, ho'] at ho; cases ho; rw [hd'] at hd; cases hd
theorem Inv.funs (I : Inv X pins σ H s) : s.heap.FunFrames X.base X.outer := by
  have all : ∀ (l : List Env), (∀ b ∈ frs l, b ∈ X.fs) → X.s_0.heap.FunFrames X.base l → s.heap.FunFrames X.base l := by
    intro l
    induction l with
    | nil => intro _ _; trivial
    | cons env r ih =>
      intro hs hl
      obtain ⟨hk, ⟨L, o, hf, hn, ho, hd⟩, hr⟩ := hl
      have hL : L ∈ X.fs := hs L (by unfold frs; rw [List.filterMap_cons, hf]; exact List.mem_cons_self)
      obtain ⟨sl, e⟩ := I.base.slot L o ho (I.ok.frf L hL) hL fun z => I.ok.exfs L z hL
      exact ⟨hk, ⟨L, _, hf, hn, e, hd⟩, ih (fun b hb => hs b (by unfold frs; rw [List.filterMap_cons, hf]; exact List.mem_cons_of_mem _ hb)) hr⟩
  exact all X.outer (fun _ hb => hb) I.ok.funs
theorem Inv.stack (I : Inv X pins σ H s) : s.heap.FunFrames X.base X.stack := by
  rcases I.ok.stk with e | ⟨e, hf⟩
  · rw [e]; exact I.funs
  · rw [e]
    obtain ⟨m, hn, _⟩ := I.loc
    refine .cons (by rw [I.ok.kind]; decide) hf hn ?_ I.funs
    exact Heap.get?_none_of_le (Nat.le_trans I.ok.bsz I.ok.above)
theorem Inv.stkSub (I : Inv X pins σ H s) : ∀ b ∈ frs X.stack, b ∈ X.env.locals :: X.fs := fun b hb => by
  rcases I.ok.stk with e | ⟨e, hf⟩
  · rw [e] at hb; exact List.mem_cons_of_mem _ hb
  · rw [e] at hb
    unfold frs at hb
    rw [List.filterMap_cons, hf] at hb
    exact hb
theorem Inv.stkFree (I : Inv X pins σ H s) : ∀ b ∈ frs X.stack, H b = none := fun b hb => by
  rcases List.mem_cons.mp (I.stkSub b hb) with e | hb
  · rw [e]; exact I.free
  · obtain ⟨_, o, ho, _⟩ := I.ok.funs.mem hb
    exact I.base.free b o ho (I.ok.frf b hb) fun z => I.ok.exfs b z hb
theorem Inv.step {g' : Array GenState} {t' : Nat} {d' : Drawn} {ch : List Addr} (I : Inv X pins σ H s)
    (hch : ∀ b ∈ ch, (b ∈ X.ex ∨ X.s_0.heap.objs.size ≤ b) ∧ b ≠ X.env.locals ∧ (∀ x c, X.env.cells.lookup x = some c → c ≠ b) ∧ ∀ p ∈ X.pn ++ pins, p.1 ≠ b)
    (keep : ∀ b o, b ≠ X.env.locals → b ∉ X.fs → b ∉ ch → s.heap.get? b = some o → H b = none → h'.get? b = some o)
    (slot : ∀ b o, b ≠ X.env.locals → b ∈ X.fs → b ∉ ch → s.heap.get? b = some o → H b = none → ∃ sl, h'.get? b = some { o with slots := sl }) (free : ∀ b o, b ∉ ch → s.heap.get? b = some o → H b = none → H' b = none)
    (there : ∀ b o, b ∉ ch → s.heap.get? b = some o → ∃ o', h'.get? b = some o')
    (tups : ∀ b xs, H b = some (.tup xs) → H' b = some (.tup xs)) (frzs : ∀ b o u, H b = some (.frz o u) → H' b = some (.frz o u)) (tbls : ∀ b ps, H b = some (.tbl ps) → ∃ more, H' b = some (.tbl (ps ++ more)))
    (ns : ∀ m, s.heap.Ns X.env.locals m → h'.Ns X.env.locals m) (hok : HOk X.prog X.w H' h') (hg : AllBare g') :
    Inv X pins σ H' { s with heap := h', gens := g', drawn := d', toks := t' } := by
  have neL : ∀ b o, X.s_0.heap.get? b = some o → b ≠ X.env.locals := fun b o e => Nat.ne_of_lt (Nat.lt_of_lt_of_le (Heap.lt_size e) I.ok.above)
  have neC : ∀ b o, X.s_0.heap.get? b = some o → b ∉ X.ex → b ∉ ch := fun b o e hx hb => by
    rcases (hch b hb).1 with z | z
    · exact hx z
    · exact absurd (Nat.lt_of_lt_of_le (Heap.lt_size e) z) (Nat.lt_irrefl _)
  have cellK : ∀ x c, X.env.cells.lookup x = some c → ∀ v, s.heap.IsCell c v → h'.IsCell c v := fun x c e v ⟨o, ho, hd⟩ => by
    have nch : c ∉ ch := fun z => (hch c z).2.2.1 x c e rfl
    by_cases hc : c ∈ X.fs
    · obtain ⟨sl, q⟩ := slot c o (I.cne x c e) hc nch ho (I.freeC x c e)
      exact ⟨_, q, hd⟩
    · exact ⟨o, keep c o (I.cne x c e) hc nch ho (I.freeC x c e), hd⟩
  refine ⟨I.ok, I.os, hg, ⟨fun b o e n hb hx => ?_, fun b o e n hb hx => ?_, fun b o e n hx => ?_, fun b o e hx => ?_, fun b xs e => tups b xs (I.base.tups b xs e), fun b o xs e => frzs b o xs (I.base.frzs b o xs e), fun b ps e => ?_⟩, ?_, fun x c e => ?_, ?_, fun x c e => ?_, fun p hp => ?_, hok, I.len⟩
  · exact keep b o (neL b o e) hb (neC b o e hx) (I.base.keep b o e n hb hx) (I.base.free b o e n hx)
  · obtain ⟨sl, e1⟩ := I.base.slot b o e n hb hx
    obtain ⟨sl', e2⟩ := slot b _ (neL b o e) hb (neC b o e hx) e1 (I.base.free b o e n hx)
    exact ⟨sl', e2⟩
  · obtain ⟨o', e1⟩ := I.base.there b o e hx
    exact free b o' (neC b o e hx) e1 (I.base.free b o e n hx)
  · obtain ⟨o', e1⟩ := I.base.there b o e hx
    exact there b o' (neC b o e hx) e1
  · obtain ⟨m1, e1⟩ := I.base.tbls b ps e
    obtain ⟨m2, e2⟩ := tbls b _ e1
    exact ⟨m1 ++ m2, by rw [e2, Array.append_assoc]⟩
  · obtain ⟨m, hn, hl⟩ := I.loc
    refine ⟨m, ns m hn, fun i x v e1 e2 e3 => ?_⟩
    obtain ⟨u, r, l⟩ := hl i x v e1 e2 e3
    refine ⟨u, r, ?_⟩
    rcases l with l | ⟨k, c, e, z⟩
    · exact .inl l
    · exact .inr ⟨k, c, e, cellK x c e _ z⟩
  · obtain ⟨v, z⟩ := I.cell x c e
    exact ⟨v, cellK x c e v z⟩
  · obtain ⟨m, ⟨o, _, _, ho, _⟩, _⟩ := I.loc
    exact free _ o (fun z => (hch _ z).2.1 rfl) ho I.free
  · obtain ⟨v, o, ho, hd⟩ := I.cell x c e
    exact free c o (fun z => (hch c z).2.2.1 x c e rfl) ho (I.freeC x c e)
  · obtain ⟨e, n, ne, nf, d⟩ := I.pin p hp
    have nch : p.1 ∉ ch := fun z => (hch p.1 z).2.2.2 p hp rfl
    exact ⟨keep p.1 p.2 ne nf nch e n, free p.1 p.2 nch e n, ne, nf, d⟩
theorem Inv.un {t' : Nat} (I : Inv X pins σ H s) (u : Un X.fs [] H H' s.heap h') (hok : HOk X.prog X.w H' h') : Inv X pins σ H' { s with heap := h', toks := t' } := by
  obtain ⟨m, ⟨o, es, ep, ho, r⟩, _⟩ := id I.loc
  obtain ⟨sl, hL⟩ := u.any ho I.free (by simp)
  exact I.step (g' := s.gens) (d' := s.drawn) (ch := []) (fun _ z => nomatch z) (fun b o _ hb _ e n => u.keep b o e n hb (by simp)) (fun b o _ hb _ e n => u.slot b o e n hb (by simp)) (fun b o _ e n => u.free b o e n (by simp)) (fun b o _ e => u.there b o e (by simp)) u.tups u.frzs u.tbls (fun m' hm => by
    obtain ⟨o', es', ep', ho', r'⟩ := hm
    rw [ho] at ho'; cases ho'
    exact ⟨_, es', ep', hL, r'⟩) hok I.bare
theorem Inv.call {g' : Array GenState} {t' : Nat} {d' : Drawn} {ch : List Addr} (I : Inv X pins σ H s) (u : Un (frs X.stack) ch H H' s.heap h') (hok : HOk X.prog X.w H' h') (hg : AllBare g')
    (hch : ∀ b ∈ ch, (b ∈ X.ex ∨ X.s_0.heap.objs.size ≤ b) ∧ b ≠ X.env.locals ∧ (∀ x c, X.env.cells.lookup x = some c → c ≠ b) ∧ ∀ p ∈ X.pn ++ pins, p.1 ≠ b) :
    Inv X pins σ H' { s with heap := h', gens := g', drawn := d', toks := t' } := by
  obtain ⟨m, ⟨o, es, ep, ho, r⟩, _⟩ := id I.loc
  obtain ⟨sl, hL⟩ := u.any ho I.free fun z => (hch _ z).2.1 rfl
  exact I.step (ch := ch) hch (fun b o hL hb hc e n => u.keep b o e n (fun z => (List.mem_cons.mp (I.stkSub b z)).elim hL hb) hc) (fun b o _ _ hc e n => u.any e n hc) (fun b o hc e n => u.free b o e n hc) (fun b o hc e => u.there b o e hc) u.tups u.frzs u.tbls (fun m' hm => by
    obtain ⟨o', es', ep', ho', r'⟩ := hm
    rw [ho] at ho'; cases ho'
    exact ⟨_, es', ep', hL, r'⟩) hok hg
theorem Inv.turned {t' : Nat} {it : Addr} (I : Inv X pins σ H s) (k : ∀ b o, b ≠ it → s.heap.get? b = some o → h'.get? b = some o) (hn : H it = none) (hL : it ≠ X.env.locals)
    (h1 : it ∈ X.ex ∨ X.s_0.heap.objs.size ≤ it) (h2 : ∀ x c, X.env.cells.lookup x = some c → c ≠ it) (h3 : ∀ p ∈ X.pn ++ pins, p.1 ≠ it) : Inv X pins σ H { s with heap := h', toks := t' } := by
  have nit : ∀ b u, H b = some u → b ≠ it := fun b u e z => by rw [z, hn] at e; cases e
  refine I.step (g' := s.gens) (d' := s.drawn) (ch := [it]) (fun b hb => ?_) (fun b o _ _ hc e _ => k b o (fun z => hc (by simp [z])) e) (fun b o _ _ hc e _ => ⟨o.slots, k b o (fun z => hc (by simp [z])) e⟩) (fun _ _ _ _ n => n)
    (fun b o hc e => ⟨o, k b o (fun z => hc (by simp [z])) e⟩) (fun _ _ e => e) (fun _ _ _ e => e) (fun b ps e => ⟨#[], by rw [e]; simp⟩) (fun m hm => ?_) (fun b u e => ?_) I.bare
  · have e : b = it := by simpa using hb
    subst e
    exact ⟨h1, hL, h2, h3⟩
  · obtain ⟨o, es, ep, ho, r⟩ := hm
    exact ⟨o, es, ep, k _ o (Ne.symm hL) ho, r⟩
  · refine (I.hok b u e).stay (fun c v hc q => k c v ?_ q) (fun _ q => q) fun _ _ q => q
    rcases hc with z | z
    · rw [z]; exact nit b u e
    · exact nit c _ z
theorem Inv.tok (I : Inv X pins σ H s) (t : Nat) : Inv X pins σ H { s with toks := t } := I.un (h' := s.heap) (t' := t) Un.refl I.hok
theorem Inv.kept {t' : Nat} (I : Inv X pins σ H s) (k : ∀ b u, s.heap.get? b = some u → h'.get? b = some u) : Inv X pins σ H { s with heap := h', toks := t' } := I.un (Un.kept k) (I.hok.kept k)
theorem Inv.laid {a : Addr} {o : HO} {t' : Nat} (I : Inv X pins σ H s) (k : ∀ b u, s.heap.get? b = some u → h'.get? b = some u) (hp : s.heap.objs.size ≤ a) (new : ObjOk X.prog X.w (upd H a o) h' a o) :
    Inv X pins σ (upd H a o) { s with heap := h', toks := t' } := I.un (Un.laid k hp (I.hok.fresh hp)) (I.hok.laid k hp new)
theorem Inv.write {x e : Addr} {o : HO} {t' : Nat} (I : Inv X pins σ H s) (mu : Mut (H x)) (he : e = x ∨ H e = some (.own x)) (k : ∀ b u, b ≠ e → s.heap.get? b = some u → h'.get? b = some u) (heo : ∃ u, h'.get? e = some u)
    (new : ObjOk X.prog X.w (upd H x o) h' x o) : Inv X pins σ (upd H x o) { s with heap := h', toks := t' } := I.un (Un.write mu he k heo) (I.hok.write mu he k heo new)
theorem Inv.weak {σ' : List (Option V)} (I : Inv X pins σ H s) (hl : σ'.length = σ.length) (w : ∀ (i : Nat) v, σ'[i]? = some (some v) → σ[i]? = some (some v)) : Inv X pins σ' H s :=
  ⟨I.ok, I.os, I.bare, I.base, let ⟨m, hn, hl'⟩ := I.loc; ⟨m, hn, fun i x v e1 e2 e3 => hl' i x v e1 (w i v e2) e3⟩, I.cell, I.free, I.freeC, I.pin, I.hok, hl.trans I.len⟩
theorem Inv.pins_of {pins' : List (Addr × Obj)} (I : Inv X pins σ H s) (h : ∀ p ∈ pins', s.heap.get? p.1 = some p.2 ∧ H p.1 = none ∧ p.1 ≠ X.env.locals ∧ p.1 ∉ X.fs ∧ ∀ v, p.2.data ≠ .cell v) : Inv X pins' σ H s :=
  ⟨I.ok, I.os, I.bare, I.base, I.loc, I.cell, I.free, I.freeC, fun p hp => (List.mem_append.mp hp).elim (fun z => I.pin p (List.mem_append_left _ z)) (h p), I.hok, I.len⟩
theorem nodup_ix {N : List Str} (hN : N.Nodup) {i j : Nat} {x : Str} (a : N[i]? = some x) (b : N[j]? = some x) : i = j := by
  obtain ⟨h1, e1⟩ := List.getElem?_eq_some_iff.mp a
  obtain ⟨h2, e2⟩ := List.getElem?_eq_some_iff.mp b
  exact (List.getElem_inj hN).mp (e1.trans e2.symm)
theorem store_ok2 {M : Model} {A : Around} {E : Value → Shared → Prop} {i : Nat} {x : Str} {v : V} {u : Value} {Q : Unit → Shared → Prop} (I : Inv X pins σ H s) (hN : X.N.Nodup) (hi : X.N[i]? = some x) (hx : Loc X.env.scope x) (r : RelV v u)
    (h : ∀ s', Inv X pins (σ.set i (some v)) H s' → (∃ a, Heap.SameBut a s.heap s'.heap ∧ (a = X.env.locals ∨ X.env.cells.lookup x = some a)) → Q () s') (hf : X.fn x = true ∨ X.env.scope.names.lookup x = some .local := by first | exact .inl rfl | exact .inr rfl | assumption) : wpAny M A (storeName X.env x u) Q E s := by
  obtain ⟨m, hn, hl⟩ := id I.loc
  have hcls : (X.env.scope.kind == .class || (X.env.scope.kind == .module && X.env.locals != X.env.globals)) = false := by rw [I.ok.kind]; rfl
  have hiσ : i < σ.length := by rw [I.len]; exact (List.getElem?_eq_some_iff.mp hi).1
  have cne := I.cne
  have tracked : ∀ {a : Addr} {h' : Heap}, (∃ o, s.heap.get? a = some o ∧ H a = none) → Heap.SameBut a s.heap h' → HOk X.prog X.w H h' := fun {a h'} ha hs b ob e => by
    obtain ⟨_, _, hfree⟩ := ha
    refine (I.hok b ob e).stay (fun c w' hc q => (hs.2 c ?_).trans q) (fun _ q => q) fun _ _ q => q
    rintro rfl
    rcases hc with rfl | hc
    · rw [hfree] at e; cases e
    · rw [hfree] at hc; cases hc
  rcases hx with hk | hk
  · refine wpAny_storeName_local hk hn (fun h' hn' hs => ?_) hcls
    obtain ⟨oL, _, _, hoL, _⟩ := id hn
    refine h _ ⟨I.ok, I.os, I.bare, ⟨fun b o e n hb hx => ?_, fun b o e n hb hx => ?_, I.base.free, fun b o e hx => ?_, I.base.tups, I.base.frzs, I.base.tbls⟩, ⟨_, hn', fun j y v' e1 e2 e3 => ?_⟩, fun y c e => ?_, I.free, I.freeC, fun p hp => ?_, tracked ⟨oL, hoL, I.free⟩ hs, by simpa using I.len⟩ ⟨_, hs, .inl rfl⟩
    · exact (hs.2 b (Nat.ne_of_lt (Nat.lt_of_lt_of_le (Heap.lt_size e) I.ok.above))).trans (I.base.keep b o e n hb hx)
    · obtain ⟨sl, e1⟩ := I.base.slot b o e n hb hx
      exact ⟨sl, (hs.2 b (Nat.ne_of_lt (Nat.lt_of_lt_of_le (Heap.lt_size e) I.ok.above))).trans e1⟩
    · obtain ⟨o', e1⟩ := I.base.there b o e hx
      exact ⟨o', (hs.2 b (Nat.ne_of_lt (Nat.lt_of_lt_of_le (Heap.lt_size e) I.ok.above))).trans e1⟩
    · by_cases hj : j = i
      · subst hj
        rw [hi] at e1; cases e1
        rw [List.getElem?_set_self hiσ] at e2
        cases e2
        exact ⟨u, r, .inl ⟨hk, by simp⟩⟩
      · rw [List.getElem?_set_ne (Ne.symm hj)] at e2
        obtain ⟨u', r', q⟩ := hl j y v' e1 e2 e3
        refine ⟨u', r', ?_⟩
        rcases q with ⟨k, e⟩ | ⟨k, c, e, z⟩
        · refine .inl ⟨k, ?_⟩
          have : y ≠ x := fun e => hj (nodup_ix hN e1 (e ▸ hi))
          simp [this, e]
        · exact .inr ⟨k, c, e, z.sameBut hs (cne y c e)⟩
    · obtain ⟨w', z⟩ := I.cell y c e
      exact ⟨w', z.sameBut hs (cne y c e)⟩
    · obtain ⟨e, n, ne, nf, d⟩ := I.pin p hp
      exact ⟨(hs.2 p.1 ne).trans e, n, ne, nf, d⟩
  · have hfn : X.fn x = true := by
      rcases hf with z | z
      · exact z
      · rw [z] at hk; cases hk
    obtain ⟨c, hc⟩ := I.ok.has x (.inl hk)
    obtain ⟨w', z⟩ := I.cell x c hc
    refine wpAny_storeName_cell I.ok.kind hk hc z (fun h' hc' hs => ?_)
    obtain ⟨oc, hoc, hocd⟩ := id z
    refine h { s with heap := h' } ⟨I.ok, I.os, I.bare, ⟨fun b o e n hb hx => ?_, fun b o e n hb hx => ?_, I.base.free, fun b o e hx => ?_, I.base.tups, I.base.frzs, I.base.tbls⟩, ⟨m, hn.sameBut hs (Ne.symm (cne x c hc)), fun j y v' e1 e2 e3 => ?_⟩, fun y c' e => ?_, I.free, I.freeC, fun p hp => ?_, tracked ⟨oc, hoc, I.freeC x c hc⟩ hs, by simpa using I.len⟩ ⟨c, hs, .inr hc⟩
    · exact (hs.2 b (Nat.ne_of_lt (Nat.lt_of_lt_of_le (Heap.lt_size e) (I.ok.cab x c hfn hc)))).trans (I.base.keep b o e n hb hx)
    · obtain ⟨sl, e1⟩ := I.base.slot b o e n hb hx
      exact ⟨sl, (hs.2 b (Nat.ne_of_lt (Nat.lt_of_lt_of_le (Heap.lt_size e) (I.ok.cab x c hfn hc)))).trans e1⟩
    · obtain ⟨o', e1⟩ := I.base.there b o e hx
      exact ⟨o', (hs.2 b (Nat.ne_of_lt (Nat.lt_of_lt_of_le (Heap.lt_size e) (I.ok.cab x c hfn hc)))).trans e1⟩
    · by_cases hj : j = i
      · subst hj
        rw [hi] at e1; cases e1
        rw [List.getElem?_set_self hiσ] at e2
        cases e2
        exact ⟨u, r, .inr ⟨.inl hk, c, hc, hc'⟩⟩
      · rw [List.getElem?_set_ne (Ne.symm hj)] at e2
        obtain ⟨u', r', q⟩ := hl j y v' e1 e2 e3
        refine ⟨u', r', ?_⟩
        rcases q with q | ⟨k, c', e, z'⟩
        · exact .inl q
        · refine .inr ⟨k, c', e, z'.sameBut hs ?_⟩
          rintro rfl
          exact hj (nodup_ix hN e1 (I.ok.inj _ _ _ e hc ▸ hi))
    · by_cases hcc : c' = c
      · subst hcc; exact ⟨_, hc'⟩
      · obtain ⟨w2, z2⟩ := I.cell y c' e
        exact ⟨w2, z2.sameBut hs hcc⟩
    · obtain ⟨e, n, ne, nf, d⟩ := I.pin p hp
      refine ⟨(hs.2 p.1 ?_).trans e, n, ne, nf, d⟩
      intro q
      rw [q, hoc] at e
      have q' : oc = p.2 := Option.some.inj e
      exact d w' (by rw [← q']; exact hocd)
theorem store_ok {M : Model} {A : Around} {E : Value → Shared → Prop} {i : Nat} {x : Str} {v : V} {u : Value} {Q : Unit → Shared → Prop} (I : Inv X pins σ H s) (hN : X.N.Nodup) (hi : X.N[i]? = some x) (hx : Loc X.env.scope x) (r : RelV v u)
    (h : ∀ s', Inv X pins (σ.set i (some v)) H s' → Q () s') (hf : X.fn x = true ∨ X.env.scope.names.lookup x = some .local := by first | exact .inl rfl | exact .inr rfl | assumption) : wpAny M A (storeName X.env x u) Q E s :=
  store_ok2 I hN hi hx r (fun s' I' _ => h s' I') hf
theorem Inv.call' {s' : Shared} {ch : List Addr} (I : Inv X pins σ H s) (ho : s'.os = s.os) (u : Un (frs X.stack) ch H H' s.heap s'.heap) (hok : HOk X.prog X.w H' s'.heap) (hg : AllBare s'.gens)
    (hch : ∀ b ∈ ch, (b ∈ X.ex ∨ X.s_0.heap.objs.size ≤ b) ∧ b ≠ X.env.locals ∧ (∀ x c, X.env.cells.lookup x = some c → c ≠ b) ∧ ∀ p ∈ X.pn ++ pins, p.1 ≠ b) : Inv X pins σ H' s' := by
  obtain ⟨h', g', d', t', o'⟩ := s'
  have e : o' = s.os := ho
  subst e
  exact I.call (g' := g') (t' := t') (d' := d') u hok hg hch
end
abbrev XK := Value → Option Addr → Hp → Prop
abbrev St := List (Option V)
abbrev VK := V → Hp → Prop
abbrev TE := St → Hp → VK → Prop
abbrev TT := St → Hp → (Bool → Hp → Prop) → Prop
abbrev TA := St → Hp → (List V → Hp → Prop) → Prop
structure Ends where
  nx : St → Hp → Prop
  rt : VK
  bk : St → Hp → Prop := fun _ _ => False
  ct : St → Hp → Prop := fun _ _ => False
abbrev TS := Ends → St → Hp → Prop
def EP (X : Cx) (pins : List (Addr × Obj)) (σ : St) (Q : VK) (u : Value) (s' : Shared) : Prop := ∃ v H', Inv X pins σ H' s' ∧ RelV v u ∧ Q v H'
def TP (X : Cx) (pins : List (Addr × Obj)) (σ : St) (Q : Bool → Hp → Prop) (b : Bool) (s' : Shared) : Prop := ∃ H', Inv X pins σ H' s' ∧ Q b H'
def AP (X : Cx) (pins : List (Addr × Obj)) (σ : St) (Q : List V → Hp → Prop) (us : List Value) (s' : Shared) : Prop := ∃ vs H', Inv X pins σ H' s' ∧ Vals vs us ∧ Q vs H'
def SP (X : Cx) (pins : List (Addr × Obj)) (D : Ends) (f : Flow) (s' : Shared) : Prop :=
  match f with
  | .next => ∃ σ' H', Inv X pins σ' H' s' ∧ D.nx σ' H'
  | .brk => ∃ σ' H', Inv X pins σ' H' s' ∧ D.bk σ' H'
  | .cont => ∃ σ' H', Inv X pins σ' H' s' ∧ D.ct σ' H'
  | .ret u => ∃ v σ' H', Inv X pins σ' H' s' ∧ RelV v u ∧ D.rt v H'
def PE (X : Cx) (e : Expr) (t : TE) : Prop :=
  ∀ (pins : List (Addr × Obj)) (s : Shared) (σ : St) (H : Hp) (Q : VK), Inv X pins σ H s → t σ H Q → wpAny (model X.prog X.w) X.A (eval e X.env) (EP X pins σ Q) X.xe s
def PT (X : Cx) (e : Expr) (t : TT) : Prop :=
  ∀ (pins : List (Addr × Obj)) (s : Shared) (σ : St) (H : Hp) (Q : Bool → Hp → Prop), Inv X pins σ H s → t σ H Q → wpAny (model X.prog X.w) X.A (isTrue e X.env (eval e X.env)) (TP X pins σ Q) X.xe s
def PW (X : Cx) (e : Expr) (t : TT) : Prop :=
  ∀ (whole : Sem Value) (pins : List (Addr × Obj)) (s : Shared) (σ : St) (H : Hp) (Q : Bool → Hp → Prop), Inv X pins σ H s → t σ H Q → wpAny (model X.prog X.w) X.A (isTrue e X.env whole) (TP X pins σ Q) X.xe s
theorem PW.pt {X : Cx} {e : Expr} {t : TT} (h : PW X e t) : PT X e t := h _
def PA (X : Cx) (es : List Expr) (t : TA) : Prop :=
  ∀ (pos : Pos) (pins : List (Addr × Obj)) (s : Shared) (σ : St) (H : Hp) (Q : List V → Hp → Prop), Inv X pins σ H s → t σ H Q → wpAny (model X.prog X.w) X.A (spliced (backTo pos (starEach es X.env))) (AP X pins σ Q) X.xe s
def PS (X : Cx) (st : Stmt) (t : TS) : Prop :=
  ∀ (pins : List (Addr × Obj)) (s : Shared) (σ : St) (H : Hp) (D : Ends), Inv X pins σ H s → t D σ H → wpAny (model X.prog X.w) X.A (exec st X.env) (SP X pins D) X.xe s
def PSs (X : Cx) (st : List Stmt) (t : TS) : Prop :=
  ∀ (pins : List (Addr × Obj)) (s : Shared) (σ : St) (H : Hp) (D : Ends), Inv X pins σ H s → t D σ H → wpAny (model X.prog X.w) X.A (execs st X.env) (SP X pins D) X.xe s
theorem thn {α : Type} {t : Sem α} {Q Q' : α → Shared → Prop} {M : Model} {A : Around} {E : Value → Shared → Prop} {s : Shared} (h : wpAny M A t Q E s) (hQ : ∀ a s, Q a s → Q' a s) : wpAny M A t Q' E s := wpAny_mono h hQ fun _ _ x => x
end L2
namespace L2
open PySem PySem.Spec PyProof.Rows
section
variable {X : Cx}
def tVar (i : Nat) : TE := fun σ H Q => ∃ v, σ[i]? = some (some v) ∧ Q v H
def tC (v : V) : TE := fun _ H Q => Q v H
theorem pe_var {i : Nat} {x : Str} {pos : Pos} (hN : X.N[i]? = some x) (hv : Vis X.env.scope x) (hd : (x == ("__debug__" : Str)) = false := by decide) (hcd : (x == ("__classdict__" : Str)) = false := by decide) : PE X (.Name x pos) (tVar i) := by
  intro pins s σ H Q I h
  obtain ⟨v, e, h⟩ := h
  obtain ⟨m, hn, hl⟩ := I.loc
  obtain ⟨u, r, l⟩ := hl i x v hN e hv
  have fin : EP X pins σ Q u s := ⟨v, H, I, r, h⟩
  rcases l with ⟨hk, hm⟩ | ⟨hk, c, hc, hcell⟩
  · exact wpAny_Name (wpAny_loadName_local I.ok.kind hk hn hm fin) hd
  · rcases hk with hk | hk
    · exact wpAny_Name (wpAny_loadName_cell I.ok.kind hk hc hcell fin) hd
    · exact wpAny_Name (wpAny_loadName_free I.ok.kind hk hc hcell fin hcd) hd
theorem pe_int {i j pos} : PE X (.Constant (.int i) j pos) (tC (.int i)) := fun _ _ _ H _ I h => wpAny_Constant_int ⟨.int i, H, I.tok _, ⟨_, rfl⟩, h⟩
theorem pe_bl {b j pos} : PE X (.Constant (.bool b) j pos) (tC (.bl b)) := fun _ _ _ H _ I h => Constant_bool ⟨.bl b, H, I, rfl, h⟩
theorem pe_non {j pos} : PE X (.Constant .none j pos) (tC .non) := fun _ _ _ H _ I h => Constant_none ⟨.non, H, I, rfl, h⟩
def Gl (X : Cx) (x : Str) : Prop := X.env.kindOf x = some .globalImplicit
theorem ld_glob {E : Value → Shared → Prop} {pins : List (Addr × Obj)} {s : Shared} {σ : St} {H : Hp} {x : Str} {u : Value} {pos : Pos} {Q : Value → Shared → Prop} (I : Inv X pins σ H s) (hg : Gl X x) (hm : X.mg x = some u) (h : Q u s)
    (hd : (x == ("__debug__" : Str)) = false := by decide) : wpAny (model X.prog X.w) X.A (eval (.Name x pos) X.env) Q E s :=
  Calls.Name_function_global I.ok.kind hg (Calls.loadGlobal_global (by rw [I.ok.glob]; exact I.mod.glob.keeps I.bk) hm h) hd
theorem ld_blt {E : Value → Shared → Prop} {pins : List (Addr × Obj)} {s : Shared} {σ : St} {H : Hp} {x : Str} {u : Value} {pos : Pos} {Q : Value → Shared → Prop} (I : Inv X pins σ H s) (hg : Gl X x) (hm : X.mg x = none) (hv : bootBuiltins x = some u) (h : Q u s)
    (hn : x ≠ "__name__" := by decide) (hd : (x == ("__debug__" : Str)) = false := by decide) : wpAny (model X.prog X.w) X.A (eval (.Name x pos) X.env) Q E s := by
  obtain ⟨mb, h1, h2⟩ := I.mod.blt
  exact Calls.Name_function_global I.ok.kind hg (Calls.loadGlobal_builtin (by rw [I.ok.glob]; exact I.mod.glob.keeps I.bk) hm (by rw [I.ok.blt]; exact h1.keeps I.bk) ((h2 x hn).trans hv) h) hd
theorem pe_glob {x : Str} {v : V} {u : Value} {pos : Pos} (hg : Gl X x) (hm : X.mg x = some u) (r : RelV v u) (hd : (x == ("__debug__" : Str)) = false := by decide) : PE X (.Name x pos) (tC v) :=
  fun _ _ _ H _ I h => ld_glob I hg hm ⟨v, H, I, r, h⟩ hd
variable {a b : Expr} {ta tb : TE} {pos : Pos}
def PC (X : Cx) (op : CmpOp) (a b : Expr) (t : TE) : Prop :=
  ∀ (pins : List (Addr × Obj)) (s : Shared) (σ : St) (H : Hp) (Q : VK), Inv X pins σ H s → t σ H Q →
    wpAny (model X.prog X.w) X.A (eval a X.env) (fun v s₁ => wpAny (model X.prog X.w) X.A (eval b X.env) (fun u s₂ => wpAny (model X.prog X.w) X.A (compareOp op v u) (EP X pins σ Q) X.xe s₂) X.xe s₁) X.xe s
theorem nobehind (b : Expr) {op : CmpOp} (h : op ≠ .In) (h2 : op ≠ .NotIn) : behindInMarks op b = false := by
  have e1 : (op == CmpOp.In) = false := by cases op <;> first | rfl | exact absurd rfl h
  have e2 : (op == CmpOp.NotIn) = false := by cases op <;> first | rfl | exact absurd rfl h2
  cases b <;> simp [behindInMarks, e1, e2]
def tIsN (ta : TE) : TE := fun σ H Q => ta σ H fun x H1 => Q (.bl (decide (x = .non))) H1
theorem RelV.none_iff {x : V} {v : Value} (r : RelV x v) : (v == Value.none) = decide (x = .non) := by
  cases x with
  | non => cases r; rfl
  | bl _ => cases r; rfl
  | int _ => obtain ⟨t, rfl⟩ := r; rfl
  | str _ => obtain ⟨t, rfl⟩ := r; rfl
  | byt _ => obtain ⟨t, rfl⟩ := r; rfl
  | flt _ => obtain ⟨t, rfl⟩ := r; rfl
  | ref _ => cases r; rfl
  | ty _ => cases r; rfl
theorem pc_isN {j pos'} (ha : PE X a ta) : PC X .Is a (.Constant .none j pos') (tIsN ta) := by
  intro pins s σ H Q I h
  refine thn (ha pins s σ H _ I h) fun v s1 ⟨x, H1, I1, r1, q1⟩ => ?_
  exact Constant_none (is_none_gen ⟨.bl _, H1, I1, by rw [r1.none_iff]; rfl, q1⟩)
def tB (t : TE) : TT := fun σ H Q => t σ H fun x H1 => ∃ c, x = .bl c ∧ Q c H1
theorem pt_cmp {op : CmpOp} {t : TE} (h : PC X op a b t) (h1 : behindInMarks op b = false := by first | exact nobehind _ (by decide) (by decide) | rfl) : PT X (.Compare a [op] [b] pos) (tB t) := by
  intro pins s σ H Q I hw
  refine wpAny_isTrue_Compare1 (thn (h pins s σ H _ I hw) fun v s1 h1 => thn h1 fun u s2 h2 => thn h2 fun c s3 ⟨x, H1, I1, r1, q1⟩ => ?_) h1
  obtain ⟨d, rfl, q⟩ := q1
  cases r1
  exact wpAny_truthy_bool ⟨H1, I1, q⟩
theorem pt_val {e : Expr} {t : TE} (h : PE X e t) (he : ∀ whole, isTrue e X.env whole = (do let v ← whole; standAt e.pos; holding [v] (truthy v)) := by intro _; rfl) : PT X e (tB t) := by
  intro pins s σ H Q I hw
  refine isTrue_plain (thn (h pins s σ H _ I hw) fun v s1 ⟨x, H1, I1, r1, q1⟩ => ?_) (he _)
  obtain ⟨d, rfl, q⟩ := q1
  cases r1
  exact wpAny_truthy_bool ⟨H1, I1, q⟩
variable {tA tB' : TT} {rest : List Expr}
def tAnd (t u : TT) : TT := fun σ H Q => t σ H fun c H1 => if c = true then u σ H1 Q else Q false H1
def tOr (t u : TT) : TT := fun σ H Q => t σ H fun c H1 => if c = true then Q true H1 else u σ H1 Q
def tNot (t : TT) : TT := fun σ H Q => t σ H fun c H1 => Q (!c) H1
theorem pw_and1 (ha : PT X a tA) : PW X (.BoolOp .And [a] pos) tA := by
  intro wh pins s σ H Q I h
  refine isTrue_and (thn (ha pins s σ H Q I h) fun c s1 e => ?_)
  cases c with
  | true => exact isTrue_and_nil e
  | false => exact e
theorem pw_or1 (ha : PT X a tA) : PW X (.BoolOp .Or [a] pos) tA := by
  intro wh pins s σ H Q I h
  refine isTrue_or (thn (ha pins s σ H Q I h) fun c s1 e => ?_)
  cases c with
  | false => exact isTrue_or_nil e
  | true => exact e
theorem pw_and (ha : PT X a tA) (hb : PW X (.BoolOp .And (b :: rest) pos) tB') : PW X (.BoolOp .And (a :: b :: rest) pos) (tAnd tA tB') := by
  intro wh pins s σ H Q I h
  refine isTrue_and (thn (ha pins s σ H _ I h) fun c s1 ⟨H1, I1, q1⟩ => ?_)
  cases c with
  | true => exact hb wh pins s1 σ H1 Q I1 q1
  | false => exact ⟨H1, I1, q1⟩
theorem pw_or (ha : PT X a tA) (hb : PW X (.BoolOp .Or (b :: rest) pos) tB') : PW X (.BoolOp .Or (a :: b :: rest) pos) (tOr tA tB') := by
  intro wh pins s σ H Q I h
  refine isTrue_or (thn (ha pins s σ H _ I h) fun c s1 ⟨H1, I1, q1⟩ => ?_)
  cases c with
  | true => exact ⟨H1, I1, q1⟩
  | false => exact hb wh pins s1 σ H1 Q I1 q1
theorem pt_not (ha : PT X a tA) : PT X (.UnaryOp .Not a pos) (tNot tA) := by
  intro pins s σ H Q I h
  exact isTrue_not (ha pins s σ H (fun c H1 => Q (!c) H1) I h)
def tAndV (ta tb : TE) : TE := fun σ H Q => ta σ H fun x H1 => ∃ c, x = .bl c ∧ if c = true then tb σ H1 Q else Q (.bl false) H1
def tNotV (ta : TE) : TE := fun σ H Q => ta σ H fun x H1 => ∃ c, x = .bl c ∧ Q (.bl (!c)) H1
theorem pe_one {op} {t : TE} (h : PE X a t) : PE X (.BoolOp op [a] pos) t := fun pins s σ H Q I hw => BoolOp_one (h pins s σ H Q I hw)
theorem pe_and (ha : PE X a ta) (hb : PE X (.BoolOp .And (b :: rest) pos) tb) : PE X (.BoolOp .And (a :: b :: rest) pos) (tAndV ta tb) := by
  intro pins s σ H Q I h
  refine BoolOp_and (thn (ha pins s σ H _ I h) fun v s1 ⟨x, H1, I1, r1, q1⟩ => ?_)
  obtain ⟨c, rfl, q1⟩ := q1
  cases r1
  refine wpAny_truthy_bool ?_
  cases c with
  | true => exact hb pins s1 σ H1 Q I1 q1
  | false => exact ⟨.bl false, H1, I1, rfl, q1⟩
theorem pe_not (ha : PE X a ta) : PE X (.UnaryOp .Not a pos) (tNotV ta) := by
  intro pins s σ H Q I h
  refine UnaryOp_ (thn (ha pins s σ H _ I h) fun v s1 ⟨x, H1, I1, r1, q1⟩ => ?_)
  obtain ⟨c, rfl, q1⟩ := q1
  cases r1
  exact not_of (wpAny_truthy_bool ⟨.bl (!c), H1, I1, rfl, q1⟩)
def tIf (t : TT) (ta tb : TE) : TE := fun σ H Q => t σ H fun c H1 => if c = true then ta σ H1 Q else tb σ H1 Q
theorem pe_ifExp {c : Expr} (hc : PT X c tA) (ha : PE X a ta) (hb : PE X b tb) : PE X (.IfExp c a b pos) (tIf tA ta tb) := by
  intro pins s σ H Q I h
  refine wpAny_IfExp (thn (hc pins s σ H _ I h) fun d s1 ⟨H1, I1, q1⟩ => ?_)
  cases d with
  | true => exact ha pins s1 σ H1 Q I1 q1
  | false => exact hb pins s1 σ H1 Q I1 q1
end
end L2
namespace L2
open PySem PySem.Spec PyProof.Rows
def SqL (K : PySem.W.Frag) (H : Hp) (a : Addr) (xs : List V) : Prop :=
  Rd H a (.lst xs) ∨
    ∃ (o : Obj) (its : Array Value) (n : Nat), K.lookup a = some o ∧ o.cls = .type "list" ∧ o.dict = none ∧ o.data = .seq its n ∧ its.size ≤ sizeLine ∧ Vals xs its.toList
def SqT (K : PySem.W.Frag) (H : Hp) (a : Addr) (xs : List V) : Prop :=
  Rd H a (.tup xs) ∨
    ∃ (o : Obj) (its : Array Value) (n : Nat), K.lookup a = some o ∧ o.cls = .type "tuple" ∧ o.data = .seq its n ∧ its.size ≤ sizeLine ∧ Vals xs its.toList
def absV : Value → Option V
  | .none => some .non
  | .bool b => some (.bl b)
  | .int i _ => some (.int i)
  | .str x _ => some (.str x)
  | .bytes b _ => some (.byt b)
  | .float b _ => some (.flt b)
  | .ref a => some (.ref a)
  | .type n => some (.ty n)
  | _ => none
theorem RelV.abs {x : V} {u : Value} (r : RelV x u) : absV u = some x := by
  cases x with
  | non => cases r; rfl
  | bl _ => cases r; rfl
  | int _ => obtain ⟨t, rfl⟩ := r; rfl
  | str _ => obtain ⟨t, rfl⟩ := r; rfl
  | byt _ => obtain ⟨t, rfl⟩ := r; rfl
  | flt _ => obtain ⟨t, rfl⟩ := r; rfl
  | ref _ => cases r; rfl
  | ty _ => cases r; rfl
theorem RelV.inj {x y : V} {u : Value} (r : RelV x u) (q : RelV y u) : x = y := Option.some.inj (r.abs.symm.trans q.abs)
theorem Vals.inj : ∀ {xs ys : List V} {us : List Value}, Vals xs us → Vals ys us → xs = ys
  | _, _, _, .nil, .nil => rfl
  | _, _, _, .cons r t, .cons r' t' => by rw [r.inj r', Vals.inj t t']
section
variable {X : Cx} {pins : List (Addr × Obj)} {σ : St} {H : Hp} {s : Shared} {a : Addr} {xs ys : List V}
theorem SqL.of {K : PySem.W.Frag} (h : H a = some (.lst xs)) : SqL K H a xs := .inl (.inl h)
theorem SqT.of {K : PySem.W.Frag} (h : H a = some (.tup xs)) : SqT K H a xs := .inl (.inl h)
theorem Inv.list (I : Inv X pins σ H s) (h : SqL X.K H a xs) : ∃ its : List Value, Vals xs its ∧ PlainL s.heap a its.toArray ∧ xs.length ≤ sizeLine := by
  rcases h with h | ⟨o, its, n, hk, hc, hd, hs, hz, r⟩
  · obtain ⟨z, its, n, r, e⟩ := h.ok I.hok
    exact ⟨its, r, ⟨_, n, e, rfl, rfl, rfl⟩, z⟩
  · refine ⟨its.toList, r, ⟨o, n, I.kIn a o hk, hc, hd, by simpa using hs⟩, ?_⟩
    have e := r.length
    simp only [Array.length_toList] at e
    omega
theorem Inv.tuple (I : Inv X pins σ H s) (h : SqT X.K H a xs) : ∃ its : List Value, Vals xs its ∧ IsTup s.heap a its.toArray ∧ xs.length ≤ sizeLine := by
  rcases h with h | ⟨o, its, n, hk, hc, hs, hz, r⟩
  · obtain ⟨z, its, r, p⟩ := h.ok I.hok
    exact ⟨its, r, p, z⟩
  · refine ⟨its.toList, r, ⟨o, I.kIn a o hk, hc, n, by simpa using hs⟩, ?_⟩
    have e := r.length
    simp only [Array.length_toList] at e
    omega
theorem Inv.list_inj (I : Inv X pins σ H s) (h : SqL X.K H a xs) (h' : SqL X.K H a ys) : xs = ys := by
  obtain ⟨its, r, ⟨o, n, e, _, _, d⟩, _⟩ := I.list h
  obtain ⟨its', r', ⟨o', n', e', _, _, d'⟩, _⟩ := I.list h'
  rw [e] at e'; cases e'
  rw [d] at d'
  injection d' with d1 _
  have : its = its' := by simpa using congrArg Array.toList d1
  subst this
  exact r.inj r'
end
abbrev Cx.wish (X : Cx) (E : Value → Shared → Prop) : Cx := { X with xe := E }
abbrev Cx.nox (X : Cx) : Cx := X.wish fun _ _ => False
theorem Cx.Ok.wish {X : Cx} (ok : X.Ok) (E : Value → Shared → Prop) : (X.wish E).Ok :=
  ⟨ok.mod, ok.kind, ok.glob, ok.blt, ok.above, ok.inj, ok.has, ok.cab, ok.hd, ok.frames, ok.stk, ok.exf, ok.bs, ok.bsz, ok.noex, ok.exfs, ok.funs, ok.frf⟩
theorem Cx.Ok.unwish {X : Cx} {E : Value → Shared → Prop} (ok : (X.wish E).Ok) : X.Ok :=
  ⟨ok.mod, ok.kind, ok.glob, ok.blt, ok.above, ok.inj, ok.has, ok.cab, ok.hd, ok.frames, ok.stk, ok.exf, ok.bs, ok.bsz, ok.noex, ok.exfs, ok.funs, ok.frf⟩
section
variable {X : Cx} {pins : List (Addr × Obj)} {σ : St} {H : Hp} {s : Shared} {E : Value → Shared → Prop}
theorem Inv.wish (I : Inv X pins σ H s) (E : Value → Shared → Prop) : Inv (X.wish E) pins σ H s := ⟨I.ok.wish E, I.os, I.bare, I.base, I.loc, I.cell, I.free, I.freeC, I.pin, I.hok, I.len⟩
theorem Inv.unwish (I : Inv (X.wish E) pins σ H s) : Inv X pins σ H s := ⟨I.ok.unwish, I.os, I.bare, I.base, I.loc, I.cell, I.free, I.freeC, I.pin, I.hok, I.len⟩
theorem SP.unwish {D : Ends} {f : Flow} {s' : Shared} (h : SP (X.wish E) pins D f s') : SP X pins D f s' := by
  cases f with
  | next => obtain ⟨σ', H', I, q⟩ := h; exact ⟨σ', H', I.unwish, q⟩
  | brk => obtain ⟨σ', H', I, q⟩ := h; exact ⟨σ', H', I.unwish, q⟩
  | cont => obtain ⟨σ', H', I, q⟩ := h; exact ⟨σ', H', I.unwish, q⟩
  | ret u => obtain ⟨v, σ', H', I, r, q⟩ := h; exact ⟨v, σ', H', I.unwish, r, q⟩
theorem PE.nox {e : Expr} {t : TE} (h : PE X.nox e t) : PE X e t := fun pins s σ H Q I hw =>
  wpAny_mono (h pins s σ H Q (I.wish _) hw) (fun _ _ ⟨v, H', I', r, q⟩ => ⟨v, H', I'.unwish, r, q⟩) fun _ _ z => False.elim z
theorem PT.nox {e : Expr} {t : TT} (h : PT X.nox e t) : PT X e t := fun pins s σ H Q I hw =>
  wpAny_mono (h pins s σ H Q (I.wish _) hw) (fun _ _ ⟨H', I', q⟩ => ⟨H', I'.unwish, q⟩) fun _ _ z => False.elim z
theorem PSs.nox {st : List Stmt} {t : TS} (h : PSs X.nox st t) : PSs X st t := fun pins s σ H D I hw =>
  wpAny_mono (h pins s σ H D (I.wish _) hw) (fun _ _ q => q.unwish) fun _ _ z => False.elim z
end
section
variable {X : Cx} {st : Stmt} {rest : List Stmt} {t u : TS} {e : Expr} {te : TE} {pos : Pos}
def tNext : TS := fun D σ H => D.nx σ H
def tSeq (t u : TS) : TS := fun D σ H => t { D with nx := u D } σ H
theorem pss_nil : PSs X [] tNext := fun _ _ σ H _ I h => wpAny_execs_nil ⟨σ, H, I, h⟩
theorem pss_cons (h1 : PS X st t) (h2 : PSs X rest u) : PSs X (st :: rest) (tSeq t u) := by
  intro pins s σ H D I h
  refine wpAny_execs_cons (thn (h1 pins s σ H { D with nx := u D } I h) fun f s1 q => ?_)
  cases f with
  | next =>
    obtain ⟨σ', H', I', q⟩ := q
    exact h2 pins s1 σ' H' D I' q
  | ret v => exact q
  | brk => exact q
  | cont => exact q
theorem pss_one (h1 : PS X st t) : PSs X [st] t := by
  intro pins s σ H D I h
  refine wpAny_execs_cons (thn (h1 pins s σ H D I h) fun f s1 q => ?_)
  cases f with
  | next => exact wpAny_execs_nil q
  | ret v => exact q
  | brk => exact q
  | cont => exact q
def tCont : TS := fun D σ H => D.ct σ H
theorem ps_continue : PS X (.Continue pos) tCont := fun _ _ σ H _ I h => wpAny_Continue ⟨σ, H, I, h⟩
theorem Inv.quiet {pins : List (Addr × Obj)} {σ : St} {H : Hp} {s : Shared} (I : Inv X pins σ H s) : interactive X.env = false := by simp [interactive, I.ok.kind]
def tDrop (te : TE) : TS := fun D σ H => te σ H fun _ H1 => D.nx σ H1
theorem ps_expr (he : PE X e te) (hs : swapsWith e none pos.line X.env = pure false := by rfl) : PS X (.Expr e pos) (tDrop te) := by
  intro pins s σ H D I h
  exact wpAny_Expr_any (thn (he pins s σ H _ I h) fun v s1 ⟨x, H1, I1, r1, q1⟩ => ⟨σ, H1, I1, q1⟩) I.quiet hs
def tRet (te : TE) : TS := fun D σ H => te σ H D.rt
theorem ps_ret (he : PE X e te) : PS X (.Return (some e) pos) (tRet te) := by
  intro pins s σ H D I h
  exact wpAny_Return_some (thn (he pins s σ H _ I h) fun v s1 ⟨x, H1, I1, r1, q1⟩ => ⟨x, σ, H1, I1, r1, q1⟩)
def tIfS (c : TT) (t u : TS) : TS := fun D σ H => c σ H fun b H1 => if b = true then t D σ H1 else u D σ H1
theorem ps_if {c : Expr} {a b : List Stmt} {tc : TT} (hc : PT X c tc) (ha : PSs X a t) (hb : PSs X b u) : PS X (.If c a b pos) (tIfS tc t u) := by
  intro pins s σ H D I h
  refine wpAny_If (thn (hc pins s σ H _ I h) fun d s1 ⟨H1, I1, q1⟩ => ?_)
  cases d with
  | true => exact ha pins s1 σ H1 D I1 q1
  | false => exact hb pins s1 σ H1 D I1 q1
end
abbrev TG := V → St → Hp → (St → Hp → Prop) → Prop
def PG (X : Cx) (target : Expr) (t : TG) : Prop :=
  ∀ (pins : List (Addr × Obj)) (s : Shared) (σ : St) (H : Hp) (v : V) (u : Value) (Q : St → Hp → Prop), Inv X pins σ H s → RelV v u → t v σ H Q →
    wpAny (model X.prog X.w) X.A (assign target X.env u) (fun _ s' => ∃ σ' H', Inv X pins σ' H' s' ∧ Q σ' H') X.xe s
section
variable {X : Cx} {pos : Pos}
def gName (i : Nat) : TG := fun v σ H Q => Q (σ.set i (some v)) H
theorem pg_name {i : Nat} {x : Str} (hN : X.N.Nodup) (hi : X.N[i]? = some x) (hx : Loc X.env.scope x) (hf : X.fn x = true ∨ X.env.scope.names.lookup x = some .local := by first | exact .inl rfl | exact .inr rfl | assumption) : PG X (.Name x pos) (gName i) := by
  intro pins s σ H v u Q I r h
  exact wpAny_assign_Name (store_ok I hN hi hx r (fun s' I' => ⟨_, H, I', h⟩) hf)
def tAsg (te : TE) (g : TG) : TS := fun D σ H => te σ H fun x H1 => g x σ H1 D.nx
theorem ps_set {i : Nat} {x : Str} {e : Expr} {te : TE} {pos' : Pos} (hN : X.N.Nodup) (hi : X.N[i]? = some x) (hx : Loc X.env.scope x) (he : PE X e te) (hs : swapsWith e (some (.Name x pos')) pos.line X.env = pure false := by rfl) (hf : X.fn x = true ∨ X.env.scope.names.lookup x = some .local := by first | exact .inl rfl | exact .inr rfl | assumption) :
    PS X (.Assign [.Name x pos'] e pos) (tAsg te (gName i)) := by
  intro pins s σ H D I h
  refine wpAny_Assign_Name (thn (he pins s σ H _ I h) fun v s1 ⟨y, H1, I1, r1, q1⟩ => ?_) hs
  exact store_ok I1 hN hi hx r1 (fun s2 I2 => ⟨_, H1, I2, q1⟩) hf
end
section
variable {X : Cx} {pos : Pos}
def tWhile (c : TT) (tb : TS) : TS := fun D σ H => ∃ W : Nat → St → Hp → Prop, (∃ m, W m σ H) ∧ ∀ m σ H, W m σ H →
  c σ H fun b H1 => if b = true then ∃ N : St → Hp → Prop, (∀ σ' H', N σ' H' → ∃ m', m' < m ∧ W m' σ' H') ∧ tb { D with nx := N, ct := N, bk := D.nx } σ H1 else D.nx σ H1
theorem ps_while {c : Expr} {body : List Stmt} {tc : TT} {tb : TS} (hp : PassesOwn (model X.prog X.w) X.A X.env X.xe) (hc : PT X c tc) (hb : PSs X body tb) : PS X (.While c body [] pos) (tWhile tc tb) := by
  intro pins s σ H D I h
  obtain ⟨W, ⟨m0, w0⟩, turn⟩ := h
  refine wpAny_While (codeAny_whileLoop (fun n s' => ∃ σ' H', Inv X pins σ' H' s' ∧ W n σ' H') ?_ m0 ⟨σ, H, I, w0⟩)
  rintro n s1 ⟨σ1, H1, I1, w1⟩
  refine wpAny_passesOwn hp (thn (hc pins s1 σ1 H1 _ I1 (turn n σ1 H1 w1)) fun b s2 ⟨H2, I2, q2⟩ => ?_)
  cases b with
  | true =>
    obtain ⟨N, hN, q2⟩ := q2
    rw [if_pos rfl]
    refine wpAny_passesOwn hp (thn (hb pins s2 σ1 H2 _ I2 q2) fun f s3 q3 => ?_)
    cases f with
    | next =>
      obtain ⟨σ3, H3, I3, n3⟩ := q3
      obtain ⟨m', hm, w3⟩ := hN σ3 H3 n3
      exact ⟨m', hm, σ3, H3, I3, w3⟩
    | cont =>
      obtain ⟨σ3, H3, I3, n3⟩ := q3
      obtain ⟨m', hm, w3⟩ := hN σ3 H3 n3
      exact ⟨m', hm, σ3, H3, I3, w3⟩
    | brk => exact q3
    | ret v => exact q3
  | false =>
    rw [if_neg Bool.false_ne_true]
    exact wpAny_execs_nil ⟨σ1, H2, I2, q2⟩
end
structure It where
  go : Nat → Hp → Prop
  yld : Nat → Hp → V → Hp → Prop
  stop : Nat → Hp → Prop
def FpOk (X : Cx) (pins : List (Addr × Obj)) (H : Hp) (b : Addr) : Prop :=
  H b = none ∧ b ≠ X.env.locals ∧ b ∉ X.fs ∧ (b ∈ X.ex ∨ X.s_0.heap.objs.size ≤ b) ∧ (∀ x c, X.env.cells.lookup x = some c → c ≠ b) ∧ ∀ p ∈ X.pn ++ pins, p.1 ≠ b
theorem Inv.fpOk {X : Cx} {pins : List (Addr × Obj)} {σ : St} {H H' : Hp} {s : Shared} {b : Addr} (I : Inv X pins σ H s) (hb : s.heap.objs.size ≤ b) (hn : H' b = none) : FpOk X pins H' b := by
  refine ⟨hn, Nat.ne_of_gt (Nat.lt_of_lt_of_le I.lt hb), I.nofs hb, .inr (Nat.le_trans I.sz hb), fun x c e z => ?_, fun p hp z => ?_⟩
  · obtain ⟨v, q⟩ := I.cell x c e
    exact absurd (Nat.lt_of_lt_of_le q.lt (by rw [z]; exact hb)) (Nat.lt_irrefl _)
  · exact absurd (Nat.lt_of_lt_of_le (Heap.lt_size (I.pin p hp).1) (by rw [z]; exact hb)) (Nat.lt_irrefl _)
structure Turn (P : Program) (w : World) (K : PySem.W.Frag) (tg : Expr) (J : It) (fp : List Addr) (it : Addr) (tn : Nat → Heap → Prop) : Prop where
  mem : it ∈ fp
  obj : ∀ i h, tn i h → ∀ b ∈ fp, ∃ o, h.get? b = some o ∧ ∀ v, o.data ≠ .cell v
  keep : ∀ i h h', tn i h → (∀ b ∈ fp, ∀ o, h.get? b = some o → h'.get? b = some o) → tn i h'
  item : ∀ (X : Cx), X.prog = P → X.w = w → X.K = K → X.calm = true → ∀ (i : Nat) (pins : List (Addr × Obj)) (s : Shared) (σ : St) (H : Hp) (E : Value → Shared → Prop), Inv X pins σ H s → (∀ b ∈ fp, FpOk X pins H b) → tn i s.heap → J.go i H →
    wpAny (model P w) X.A (pyNext (.ref it)) (fun r s1 => ∃ u, r = some u ∧
      wpAny (model P w) X.A (letOwnedTupleGo tg (.ref it) u) (fun _ s2 => ∃ x H', Inv X pins σ H' s2 ∧ RelV x u ∧ J.yld i H x H' ∧ tn (i + 1) s2.heap ∧ ∀ b ∈ fp, H' b = none) E s1) E s
  done : ∀ (X : Cx), X.prog = P → X.w = w → X.K = K → X.calm = true → ∀ (i : Nat) (pins : List (Addr × Obj)) (s : Shared) (σ : St) (H : Hp) (E : Value → Shared → Prop), Inv X pins σ H s → (∀ b ∈ fp, FpOk X pins H b) → tn i s.heap → J.stop i H →
    wpAny (model P w) X.A (pyNext (.ref it)) (fun r s1 => r = none ∧ Inv X pins σ H s1) E s
  self : ∀ (A : Around) (i : Nat) (s : Shared) (Q : Value → Shared → Prop) (E : Value → Shared → Prop), tn i s.heap → Q (.ref it) s → wpAny (model P w) A (pyIter (.ref it)) Q E s
abbrev TI := St → Hp → (It → Hp → Prop) → Prop
def PIE (X : Cx) (pins : List (Addr × Obj)) (σ : St) (tg : Expr) (R : It → Hp → Prop) (itv : Value) (s2 : Shared) : Prop :=
  ∃ (it : Addr) (fp : List Addr) (tn : Nat → Heap → Prop) (J : It) (H' : Hp), itv = .ref it ∧ Inv X pins σ H' s2 ∧ Turn X.prog X.w X.K tg J fp it tn ∧ tn 0 s2.heap ∧ (∀ b ∈ fp, FpOk X pins H' b) ∧ R J H'
def PI (X : Cx) (tg iter : Expr) (wi : TI) : Prop :=
  ∀ (pins : List (Addr × Obj)) (s : Shared) (σ : St) (H : Hp) (R : It → Hp → Prop), Inv X pins σ H s → wi σ H R →
    wpAny (model X.prog X.w) X.A (eval iter X.env) (fun v s1 => wpAny (model X.prog X.w) X.A (pyIter v) (PIE X pins σ tg R) X.xe s1) X.xe s
theorem go_of {M : Model} {A : Around} {E : Value → Shared → Prop} {s : Shared} {tg : Expr} {it : Addr} {u : Value} {o : Obj} {n : String} {vs : Array Value} {Q : Unit → Shared → Prop} (ho : s.heap.get? it = some o) (hc : o.cls = .type n) (hd : o.data = .fields vs)
    (hn : ["enumerate", "zip", "dict_itemiterator", "dict_reverseitemiterator", "odict_iterator", "itertools.zip_longest", "itertools.pairwise"].contains n = false) (hQ : Q () s) : wpAny M A (letOwnedTupleGo tg (.ref it) u) Q E s := by
  unfold letOwnedTupleGo
  cases tg <;> first
    | exact wpAny_pure hQ
    | (cases u <;> first
        | exact wpAny_pure hQ
        | (refine wpAny_bind (wpAny_load ho ?_)
           rw [hc, hd]
           show wpAny M A (if (["enumerate", "zip", "dict_itemiterator", "dict_reverseitemiterator", "odict_iterator", "itertools.zip_longest", "itertools.pairwise"].contains n && vs[0]? == some (rawInt _)) = true then _ else _) Q E s
           rw [if_neg (by intro h; rw [hn, Bool.false_and] at h; cases h)]
           exact wpAny_pure hQ))
def Itl (K : PySem.W.Frag) (a : Addr) : It :=
  ⟨fun i H => ∃ xs x, SqL K H a xs ∧ xs[i]? = some x, fun i H x H' => H' = H ∧ ∀ xs, SqL K H a xs → xs[i]? = some x, fun i H => ∃ xs, SqL K H a xs ∧ xs.length ≤ i⟩
def Itr (lo : Int) (n : Nat) : It := ⟨fun i _ => i < n, fun i H x H' => H' = H ∧ x = .int (lo + i), fun i _ => n ≤ i⟩
theorem turn_list {P : Program} {w : World} {K : PySem.W.Frag} {tg : Expr} (a it : Addr) : Turn P w K tg (Itl K a) [it] it (fun i h => h.IsListIter it a i) where
  mem := by simp
  obj := fun i h st b hb => by
    have e : b = it := by simpa using hb
    subst e
    obtain ⟨o, e, c, d⟩ := st
    exact ⟨o, e, fun v z => by rw [d] at z; cases z⟩
  keep := fun i h h' st k => st.at fun o e => k it (by simp) o e
  item := by
    intro X hP hw hK hc i pins s σ H E I hf st hg
    subst hP hw hK
    obtain ⟨xs, x, hq, hx⟩ := hg
    obtain ⟨its, rv, p, hz⟩ := I.list hq
    obtain ⟨u, hu, ru⟩ := rv.get hx
    obtain ⟨f0, f1, f2, f3, f4, f5⟩ := hf it (by simp)
    refine wpAny_pyNext_list_item st p.isList (x := u) (by simpa using hu) fun h' st' sb => ?_
    have I1 : Inv X pins σ H { s with heap := h' } := I.turned (t' := s.toks) (fun b o hb e => (sb.2 b hb).trans e) f0 f1 f3 f4 f5
    obtain ⟨o, e, c, d⟩ := id st'
    exact ⟨u, rfl, go_of (s := { s with heap := h' }) e c d (by decide) ⟨x, H, I1, ru, ⟨rfl, fun ys hy => by rw [I.list_inj hy hq]; exact hx⟩, st', fun b hb => (hf b hb).1⟩⟩
  done := by
    intro X hP hw hK hc i pins s σ H E I hf st hg
    subst hP hw hK
    obtain ⟨xs, hq, hx⟩ := hg
    obtain ⟨its, rv, p, hz⟩ := I.list hq
    obtain ⟨f0, f1, f2, f3, f4, f5⟩ := hf it (by simp)
    have hl := rv.length
    exact wpAny_pyNext_list_end (I.ok.hd hc) st p.isList (by simp; omega) fun h' eb => ⟨rfl, I.turned (t' := s.toks) (fun b o hb e => eb b o hb e) f0 f1 f3 f4 f5⟩
  self := fun _ _ _ _ _ st h => wpAny_pyIter_listiter st h
theorem turn_range {P : Program} {w : World} {K : PySem.W.Frag} {tg : Expr} (it : Addr) (lo : Int) (n : Nat) : Turn P w K tg (Itr lo n) [it] it (fun i h => IsRangeIter h it (lo + (i : Nat) * 1) ((n : Int) - (i : Nat)) 1) where
  mem := by simp
  obj := fun i h st b hb => by
    have e : b = it := by simpa using hb
    subst e
    exact ⟨_, st, fun v z => by
      have z' : Data.fields _ = Data.cell v := z
      cases z'⟩
  keep := fun i h h' st k => k it (by simp) _ st
  item := by
    intro X hP hw hK hc i pins s σ H E I hf st hg
    subst hP hw hK
    obtain ⟨f0, f1, f2, f3, f4, f5⟩ := hf it (by simp)
    have W := Walks.range (prog := X.prog) (w := X.w) (I.ok.hd hc) it lo 1 n
    refine W.item i s _ _ hg st fun v h' tk hv st' kk => ?_
    obtain ⟨t, rfl⟩ := hv
    have I1 : Inv X pins σ H { s with heap := h', toks := tk } := I.turned (fun b o hb e => kk b o (by simpa using hb) e) f0 f1 f3 f4 f5
    refine ⟨_, rfl, go_of (s := { s with heap := h', toks := tk }) (n := "range_iterator") st' rfl rfl (by decide) ⟨.int (lo + i), H, I1, ⟨t, ?_⟩, ⟨rfl, rfl⟩, st', fun b hb => (hf b hb).1⟩⟩
    rw [Int.mul_one]
  done := by
    intro X hP hw hK hc i pins s σ H E I hf st hg
    subst hP hw hK
    obtain ⟨f0, f1, f2, f3, f4, f5⟩ := hf it (by simp)
    exact wpAny_pyNext_range_end (I.ok.hd hc) st (by have : n ≤ i := hg; omega) fun h' eb => ⟨rfl, I.turned (t' := s.toks) (fun b o hb e => eb b o hb e) f0 f1 f3 f4 f5⟩
  self := fun _ _ _ _ _ st h => wpAny_pyIter_rangeiter st h
end L2
namespace L2
open PySem PySem.Spec PyProof.Rows
section
variable {X : Cx} {tg : Expr}
def iList (K : PySem.W.Frag) (tl : TE) : TI := fun σ H R => tl σ H fun x H1 => ∃ a, x = .ref a ∧ (∃ xs, SqL K H1 a xs) ∧ R (Itl K a) H1
theorem pi_list {l : Expr} {tl : TE} (hl : PE X l tl) : PI X tg l (iList X.K tl) := by
  intro pins s σ H R I h
  refine thn (hl pins s σ H _ I h) fun v s1 ⟨x, H1, I1, r1, q1⟩ => ?_
  obtain ⟨a, e, ⟨xs, hq⟩, q⟩ := q1
  subst e
  cases r1
  obtain ⟨its, rv, p, hz⟩ := I1.list hq
  refine wpAny_pyIter_list p.isList ?_
  refine ⟨s1.heap.objs.size, [s1.heap.objs.size], _, _, H1, rfl, I1.kept (t' := s1.toks) fun b o e => Heap.get?_push_of_some _ e, turn_list a _, ⟨_, Heap.get?_push_size _ rfl, rfl, rfl⟩, fun b hb => ?_, q⟩
  have e : b = s1.heap.objs.size := by simpa using hb
  subst e
  exact I1.fpOk (Nat.le_refl _) (I1.hok.fresh (Nat.le_refl _))
theorem range_it {pins : List (Addr × Obj)} {σ : St} {H : Hp} {s : Shared} {R : It → Hp → Prop} {E : Value → Shared → Prop} {lo hi : Int} {t u v : Tok} {tk : Nat} (I : Inv X pins σ H s) (h1 : -(2 ^ 62) ≤ lo) (h2 : lo < 2 ^ 62) (h3 : -(2 ^ 62) ≤ hi) (h4 : hi < 2 ^ 62)
    (q : R (Itr lo (hi - lo).toNat) H) : wpAny (model X.prog X.w) X.A (pyIter (.ref s.heap.objs.size)) (PIE X pins σ tg R) E { s with heap := s.heap.push { cls := .type "range", data := .fields #[.int lo t, .int hi u, .int 1 v] }, toks := tk } := by
  refine wpAny_pyIter_range (IsRange.new ..) (small_one h1 h2 h3 h4) ?_
  have I1 : Inv X pins σ H { s with heap := s.heap.push { cls := .type "range", data := .fields #[.int lo t, .int hi u, .int 1 v] }, toks := tk } := I.kept fun b o e => Heap.get?_push_of_some _ e
  refine ⟨(s.heap.push { cls := .type "range", data := .fields #[.int lo t, .int hi u, .int 1 v] }).objs.size, [(s.heap.push { cls := .type "range", data := .fields #[.int lo t, .int hi u, .int 1 v] }).objs.size], _, _, H, rfl,
    I1.kept (t' := tk) fun b o e => Heap.get?_push_of_some _ e, turn_range _ lo (hi - lo).toNat, ?_, fun b hb => ?_, q⟩
  · have e1 : lo + ((0 : Nat) : Int) * 1 = lo := by simp
    have e2 : (((hi - lo).toNat : Nat) : Int) - ((0 : Nat) : Int) = Builtin.Range.rangeSize lo hi 1 := by rw [rangeSize_one]; split <;> omega
    show IsRangeIter _ _ (lo + ((0 : Nat) : Int) * 1) ((((hi - lo).toNat : Nat) : Int) - ((0 : Nat) : Int)) 1
    rw [e1, e2]
    exact Heap.get?_push_size _ rfl
  · have e : b = (s.heap.push { cls := .type "range", data := .fields #[.int lo t, .int hi u, .int 1 v] }).objs.size := by simpa using hb
    subst e
    exact I1.fpOk (Nat.le_refl _) (I1.hok.fresh (Nat.le_refl _))
def iRng1 (ta : TA) : TI := fun σ H R => ta σ H fun vs H1 => ∃ j : Int, vs = [.int j] ∧ -(2 ^ 62) ≤ j ∧ j < 2 ^ 62 ∧ R (Itr 0 j.toNat) H1
theorem pi_range1 {a : Expr} {ta : TA} {p pos : Pos} (hg : Gl X "range") (hm : X.mg "range" = none) (ha : PA X [a] ta) (hs : starEach [a] X.env = [(false, eval a X.env)] := by rfl) : PI X tg (.Call (.Name "range" p) [a] [] pos) (iRng1 ta) := by
  intro pins s σ H R I h
  refine Call_ (ld_blt I hg hm boot_range (PyProof.Rows.callWith_type1 (thn (ha pos pins s σ H _ I h) fun us s1 ⟨vs, H1, I1, r1, q1⟩ => ?_) hs rfl))
  obtain ⟨j, e, q1, q2, q⟩ := q1
  subst e
  cases r1 with
  | cons r rr =>
    cases rr
    obtain ⟨t, rfl⟩ := r
    exact call_range_1 (range_it I1 (by omega) (by omega) q1 q2 (by simpa using q))
def tFor (wi : TI) (g : TG) (tb : TS) : TS := fun D σ H => wi σ H fun J H1 => ∃ W : Nat → Nat → St → Hp → Prop, (∃ m, W 0 m σ H1) ∧ ∀ i m σ H, W i m σ H →
  (J.stop i H ∧ D.nx σ H) ∨ (J.go i H ∧ ∃ N : St → Hp → Prop, (∀ σ' H', N σ' H' → ∃ m', m' < m ∧ W (i + 1) m' σ' H') ∧ ∀ x H', J.yld i H x H' → g x σ H' fun σ2 H2 => tb { D with nx := N, ct := N, bk := D.nx } σ2 H2)
def pinsAt (fp : List Addr) (h : Heap) : List (Addr × Obj) := fp.filterMap fun b => (h.get? b).map fun o => (b, o)
theorem mem_pinsAt {fp : List Addr} {h : Heap} {b : Addr} {o : Obj} (hb : b ∈ fp) (e : h.get? b = some o) : (b, o) ∈ pinsAt fp h := List.mem_filterMap.mpr ⟨b, hb, by rw [e]; rfl⟩
theorem of_pinsAt {fp : List Addr} {h : Heap} {p : Addr × Obj} (hp : p ∈ pinsAt fp h) : p.1 ∈ fp ∧ h.get? p.1 = some p.2 := by
  obtain ⟨b, hb, e⟩ := List.mem_filterMap.mp hp
  cases q : h.get? b with
  | none => rw [q] at e; cases e
  | some o =>
    rw [q] at e
    have e' : (b, o) = p := Option.some.inj e
    subst e'
    exact ⟨hb, q⟩
theorem Inv.pinned {pins : List (Addr × Obj)} {σ : St} {H : Hp} {s : Shared} {fp : List Addr} (I : Inv X pins σ H s) (hf : ∀ b ∈ fp, FpOk X pins H b) (ho : ∀ b ∈ fp, ∃ o, s.heap.get? b = some o ∧ ∀ v, o.data ≠ .cell v) : Inv X (pins ++ pinsAt fp s.heap) σ H s :=
  I.pins_of fun p hp => (List.mem_append.mp hp).elim (fun z => I.pin p (List.mem_append_right _ z)) fun z => by
    obtain ⟨hb, e⟩ := of_pinsAt z
    obtain ⟨f0, f1, f2, _⟩ := hf p.1 hb
    obtain ⟨o, e', d⟩ := ho p.1 hb
    rw [e] at e'; cases e'
    exact ⟨e, f0, f1, f2, d⟩
theorem Inv.unpinned {pins pl : List (Addr × Obj)} {σ : St} {H : Hp} {s : Shared} (I : Inv X (pins ++ pl) σ H s) : Inv X pins σ H s := I.pins_of fun p hp => I.pin p (List.mem_append_right _ (List.mem_append_left _ hp))
theorem ps_for {iter : Expr} {body : List Stmt} {wi : TI} {g : TG} {tb : TS} {pos : Pos} (hp : PassesOwn (model X.prog X.w) X.A X.env X.xe) (hc : X.calm = true) (hi : PI X tg iter wi) (hg : PG X tg g) (hb : PSs X body tb)
    (hs : ∀ x, foldedSetIterable iter X.env x = pure x := by intro _; rfl) : PS X (.For tg iter body [] pos) (tFor wi g tb) := by
  intro pins s σ H D I h
  refine wpAny_For (thn (hi pins s σ H _ I h) fun v s1 h1 => thn h1 fun itv s2 h2 => ?_) hs
  obtain ⟨it, fp, tn, J, H2, e, I2, T, st2, f2, W, ⟨m0, w0⟩, turn⟩ := h2
  subst e
  -- what stays true of the iterator's objects through the loop
  have stat : ∀ {H' : Hp}, (∀ b ∈ fp, H' b = none) → ∀ b ∈ fp, FpOk X pins H' b := fun hn b hb => ⟨hn b hb, (f2 b hb).2⟩
  refine codeAny_forLoop_any (fun n s' => ∃ i σ' H', Inv X pins σ' H' s' ∧ tn i s'.heap ∧ (∀ b ∈ fp, H' b = none) ∧ W i n σ' H') ?_ m0 ⟨0, σ, H2, I2, st2, fun b hb => (f2 b hb).1, w0⟩
  rintro n s3 ⟨i, σ3, H3, I3, st3, fr3, w3⟩
  rcases turn i n σ3 H3 w3 with ⟨stop, qn⟩ | ⟨go, N, hN, step⟩
  · refine wpAny_passesOwn hp (thn (T.done X rfl rfl rfl hc i pins s3 σ3 H3 X.xe I3 (stat fr3) st3 stop) fun r s4 ⟨hr, I4⟩ => ?_)
    subst hr
    exact wpAny_execs_nil ⟨σ3, H3, I4, qn⟩
  · refine wpAny_passesOwn hp (thn (T.item X rfl rfl rfl hc i pins s3 σ3 H3 X.xe I3 (stat fr3) st3 go) fun r s4 ⟨u, hr, h4⟩ => ?_)
    subst hr
    refine wpAny_passesOwn hp (thn h4 fun _ s5 ⟨x, H5, I5, r5, y5, st5, fr5⟩ => ?_)
    have I5' := I5.pinned (stat fr5) (T.obj _ _ st5)
    refine wpAny_passesOwn hp (thn (hg _ s5 σ3 H5 x u _ I5' r5 (step x H5 y5)) fun _ s6 ⟨σ6, H6, I6, q6⟩ => ?_)
    refine wpAny_passesOwn hp (thn (hb _ s6 σ6 H6 _ I6 q6) fun f s7 q7 => ?_)
    have again : ∀ {σ7 : St} {H7 : Hp}, Inv X (pins ++ pinsAt fp s5.heap) σ7 H7 s7 → N σ7 H7 → ∃ m, m < n ∧ ∃ i σ' H', Inv X pins σ' H' s7 ∧ tn i s7.heap ∧ (∀ b ∈ fp, H' b = none) ∧ W i m σ' H' := fun {σ7 H7} I7 n7 => by
      obtain ⟨m', hm, w7⟩ := hN σ7 H7 n7
      refine ⟨m', hm, i + 1, σ7, H7, I7.unpinned, T.keep _ _ _ st5 fun b hb o e => (I7.pin (b, o) (List.mem_append_right _ (List.mem_append_right _ (mem_pinsAt hb e)))).1, fun b hb => ?_, w7⟩
      obtain ⟨o, e, d⟩ := T.obj _ _ st5 b hb
      exact (I7.pin (b, o) (List.mem_append_right _ (List.mem_append_right _ (mem_pinsAt hb e)))).2.1
    cases f with
    | next => obtain ⟨σ7, H7, I7, n7⟩ := q7; exact again I7 n7
    | cont => obtain ⟨σ7, H7, I7, n7⟩ := q7; exact again I7 n7
    | brk => obtain ⟨σ7, H7, I7, q7⟩ := q7; exact ⟨σ7, H7, I7.unpinned, q7⟩
    | ret v => obtain ⟨x7, σ7, H7, I7, r7, q7⟩ := q7; exact ⟨x7, σ7, H7, I7.unpinned, r7, q7⟩
end
theorem for_range {lo : Int} {n : Nat} {g : TG} {tb : TS} {D : Ends} {σ : St} {H : Hp} (Pv : Nat → St → Hp → Prop) (h0 : Pv 0 σ H)
    (hs : ∀ i σ H, i < n → Pv i σ H → g (.int (lo + i)) σ H fun σ2 H2 => tb { D with nx := Pv (i + 1), ct := Pv (i + 1), bk := D.nx } σ2 H2) (hd : ∀ σ H, Pv n σ H → D.nx σ H) :
    ∃ W : Nat → Nat → St → Hp → Prop, (∃ m, W 0 m σ H) ∧ ∀ i m σ H, W i m σ H →
      ((Itr lo n).stop i H ∧ D.nx σ H) ∨ ((Itr lo n).go i H ∧ ∃ N : St → Hp → Prop, (∀ σ' H', N σ' H' → ∃ m', m' < m ∧ W (i + 1) m' σ' H') ∧ ∀ x H', (Itr lo n).yld i H x H' → g x σ H' fun σ2 H2 => tb { D with nx := N, ct := N, bk := D.nx } σ2 H2) := by
  refine ⟨fun i m σ H => m = n - i ∧ i ≤ n ∧ Pv i σ H, ⟨n, by simp, Nat.zero_le _, h0⟩, ?_⟩
  rintro i m σ H ⟨rfl, hi, p⟩
  by_cases hlt : i < n
  · refine .inr ⟨hlt, Pv (i + 1), fun σ' H' p' => ⟨n - (i + 1), by omega, rfl, hlt, p'⟩, fun x H' y => ?_⟩
    obtain ⟨e, y⟩ := y
    subst e y
    exact hs i σ _ hlt p
  · have e : i = n := by omega
    subst e
    exact .inl ⟨Nat.le_refl _, hd σ H p⟩
theorem while_by {c : TT} {tb : TS} {D : Ends} {σ : St} {H : Hp} (Pv : St → Hp → Prop) (μ : St → Hp → Nat) (h0 : Pv σ H)
    (hs : ∀ σ H, Pv σ H → c σ H fun b H1 => if b = true then tb { D with nx := fun σ' H' => Pv σ' H' ∧ μ σ' H' < μ σ H, ct := fun σ' H' => Pv σ' H' ∧ μ σ' H' < μ σ H, bk := D.nx } σ H1 else D.nx σ H1)
    (mono : ∀ σ H Q Q', (∀ b H1, Q b H1 → Q' b H1) → c σ H Q → c σ H Q') : tWhile c tb D σ H := by
  refine ⟨fun m σ H => m = μ σ H ∧ Pv σ H, ⟨_, rfl, h0⟩, ?_⟩
  rintro m σ H ⟨rfl, p⟩
  refine mono σ H _ _ (fun b H1 q => ?_) (hs σ H p)
  cases b with
  | true => exact ⟨_, fun σ' H' ⟨p', l⟩ => ⟨_, l, rfl, p'⟩, q⟩
  | false => exact q
end L2
namespace L2
open PySem PySem.Spec PyProof.Rows
abbrev R2 := V → V → Hp → VK → Prop
def OpR (X : Cx) (f : Value → Value → Sem Value) (r : R2) : Prop :=
  ∀ (pins : List (Addr × Obj)) (s : Shared) (σ : St) (H : Hp) (x y : V) (v u : Value) (Q : VK), Inv X pins σ H s → RelV x v → RelV y u → r x y H Q →
    wpAny (model X.prog X.w) X.A (f v u) (EP X pins σ Q) X.xe s
def CallR (X : Cx) (f : Value) (r : List V → Hp → VK → Prop) : Prop :=
  ∀ (pins : List (Addr × Obj)) (s : Shared) (σ : St) (H : Hp) (xs : List V) (us : List Value) (Q : VK), Inv X pins σ H s → Vals xs us → r xs H Q →
    wpAny (model X.prog X.w) X.A (call f us) (EP X pins σ Q) X.xe s
def tOp (r : R2) (ta tb : TE) : TE := fun σ H Q => ta σ H fun x H1 => tb σ H1 fun y H2 => r x y H2 Q
def rI (C : Int → Int → Prop) (g : Int → Int → V) : R2 := fun x y H Q => ∃ i j, x = .int i ∧ y = .int j ∧ C i j ∧ Q (g i j) H
def rI0 (g : Int → Int → V) : R2 := fun x y H Q => ∃ i j, x = .int i ∧ y = .int j ∧ Q (g i j) H
section
variable {X : Cx} {a b c : Expr} {ta tb tc : TE} {pos : Pos}
theorem binT (ha : PE X a ta) (hb : PE X b tb) {pins : List (Addr × Obj)} {s : Shared} {σ : St} {H : Hp} {R : V → V → Hp → Prop} (I : Inv X pins σ H s)
    (h : ta σ H fun x H1 => tb σ H1 fun y H2 => R x y H2) {Q : Value → Shared → Prop} {f : Value → Value → Sem Value}
    (hf : ∀ v u s2 x y H2, Inv X pins σ H2 s2 → RelV x v → RelV y u → R x y H2 → wpAny (model X.prog X.w) X.A (f v u) Q X.xe s2) :
    wpAny (model X.prog X.w) X.A (eval a X.env) (fun v s₁ => wpAny (model X.prog X.w) X.A (eval b X.env) (fun u s₂ => wpAny (model X.prog X.w) X.A (f v u) Q X.xe s₂) X.xe s₁) X.xe s := by
  refine thn (ha pins s σ H _ I h) fun v s1 ⟨x, H1, I1, r1, q1⟩ => ?_
  refine thn (hb pins s1 σ H1 _ I1 q1) fun u s2 ⟨y, H2, I2, r2, q2⟩ => ?_
  exact hf v u s2 x y H2 I2 r1 r2 q2
theorem pe_op {op : Operator} {r : R2} (ho : OpR X (binaryOp op) r) (ha : PE X a ta) (hb : PE X b tb) : PE X (.BinOp a op b pos) (tOp r ta tb) := by
  intro pins s σ H Q I h
  exact wpAny_BinOp (binT ha hb I h fun v u s2 x y H2 I2 rx ry q => ho pins s2 σ H2 x y v u Q I2 rx ry q)
theorem opI {f : Value → Value → Sem Value} {C : Int → Int → Prop} {g : Int → Int → Int}
    (rule : ∀ (i j : Int) (t u : Tok) (s : Shared) (Q : Value → Shared → Prop) (E : Value → Shared → Prop), C i j → Q (.int (g i j) s.toks) { s with toks := s.toks + 1 } → wpAny (model X.prog X.w) X.A (f (.int i t) (.int j u)) Q E s) :
    OpR X f (rI C fun i j => .int (g i j)) := by
  intro pins s σ H x y v u Q I rx ry h
  obtain ⟨i, j, rfl, rfl, hc, q⟩ := h
  obtain ⟨t, rfl⟩ := rx
  obtain ⟨t', rfl⟩ := ry
  exact rule i j t t' s _ _ hc ⟨.int (g i j), H, I.tok _, ⟨_, rfl⟩, q⟩
theorem opI0 {f : Value → Value → Sem Value} {g : Int → Int → Int}
    (rule : ∀ (i j : Int) (t u : Tok) (s : Shared) (Q : Value → Shared → Prop) (E : Value → Shared → Prop), Q (.int (g i j) s.toks) { s with toks := s.toks + 1 } → wpAny (model X.prog X.w) X.A (f (.int i t) (.int j u)) Q E s) :
    OpR X f (rI0 fun i j => .int (g i j)) := by
  intro pins s σ H x y v u Q I rx ry h
  obtain ⟨i, j, rfl, rfl, q⟩ := h
  obtain ⟨t, rfl⟩ := rx
  obtain ⟨t', rfl⟩ := ry
  exact rule i j t t' s _ _ ⟨.int (g i j), H, I.tok _, ⟨_, rfl⟩, q⟩
theorem opB0 {f : Value → Value → Sem Value} {g : Int → Int → Bool}
    (rule : ∀ (i j : Int) (t u : Tok) (s : Shared) (Q : Value → Shared → Prop) (E : Value → Shared → Prop), Q (.bool (g i j)) s → wpAny (model X.prog X.w) X.A (f (.int i t) (.int j u)) Q E s) :
    OpR X f (rI0 fun i j => .bl (g i j)) := by
  intro pins s σ H x y v u Q I rx ry h
  obtain ⟨i, j, rfl, rfl, q⟩ := h
  obtain ⟨t, rfl⟩ := rx
  obtain ⟨t', rfl⟩ := ry
  exact rule i j t t' s _ _ ⟨.bl (g i j), H, I, rfl, q⟩
def CDiv (i j : Int) : Prop := 0 < j ∧ j < 1073741824
def CMul (i j : Int) : Prop := (-(2 ^ 64) < i ∧ i < 2 ^ 64) ∨ (-(2 ^ 64) < j ∧ j < 2 ^ 64)
theorem CMul.ok {i j : Int} (h : CMul i j) : IntMulOk i j := by
  rcases h with ⟨h1, h2⟩ | ⟨h1, h2⟩
  · exact .of_left (intBits_le_64 h1 h2)
  · exact .of_right (intBits_le_64 h1 h2)
theorem op_add : OpR X (binaryOp .Add) (rI0 fun i j => .int (i + j)) := opI0 fun _ _ _ _ _ _ _ q => add_int q
theorem op_sub : OpR X (binaryOp .Sub) (rI0 fun i j => .int (i - j)) := opI0 fun _ _ _ _ _ _ _ q => sub_int q
theorem op_mul : OpR X (binaryOp .Mult) (rI CMul fun i j => .int (i * j)) := opI fun _ _ _ _ _ _ _ hc q => mul_int q hc.ok
theorem op_fdiv : OpR X (binaryOp .FloorDiv) (rI CDiv fun i j => .int (i / j)) := opI fun i j _ _ _ _ _ hc q => by
  have h1 : (0 : Int) < j := hc.1
  have h2 : j < 1073741824 := hc.2
  exact floordiv_int (by omega) (by rw [Int.fdiv_eq_ediv_of_nonneg i (by omega)]; exact q) (.inl (PyProof.noPylong_small (by omega)))
end
def scal : V → V → Bool
  | .non, .non => true | .non, .int _ => true | .int _, .non => true | .non, .bl _ => true | .bl _, .non => true | .non, .str _ => true | .str _, .non => true
  | .int _, .int _ => true | .bl _, .bl _ => true | .str _, .str _ => true | .byt _, .byt _ => true
  | .int _, .str _ => true | .str _, .int _ => true | .bl _, .str _ => true | .str _, .bl _ => true
  | _, _ => false
def rEq : R2 := fun x y H Q => scal x y = true ∧ Q (.bl (decide (x = y))) H
def rNe : R2 := fun x y H Q => scal x y = true ∧ Q (.bl (!decide (x = y))) H
theorem dec_int {i j : Int} : decide (V.int i = V.int j) = (i == j) := by
  rw [Bool.eq_iff_iff]
  simp
theorem dec_bl {i j : Bool} : decide (V.bl i = V.bl j) = (i == j) := by
  rw [Bool.eq_iff_iff]
  simp
theorem dec_str {i j : Str} : decide (V.str i = V.str j) = (i == j) := by
  rw [Bool.eq_iff_iff]
  simp
theorem dec_byt {i j : Array UInt8} : decide (V.byt i = V.byt j) = (i.toList == j.toList) := by
  rw [Bool.eq_iff_iff]
  cases i
  cases j
  simp
section
variable {X : Cx} {a b c : Expr} {ta tb tc : TE} {pos : Pos}
theorem fin_bl {pins : List (Addr × Obj)} {σ : St} {H : Hp} {s : Shared} {Q : VK} {k k' : Bool} (I : Inv X pins σ H s) (q : Q (.bl k) H) (e : k = k') : EP X pins σ Q (.bool k') s := by
  subst e
  exact ⟨.bl k, H, I, rfl, q⟩
theorem op_eq : OpR X (compareOp .Eq) rEq := by
  intro pins s σ H x y v u Q I rx ry h
  obtain ⟨hs, q⟩ := h
  cases x with
  | non =>
    cases rx
    cases y with
    | non => cases ry; exact PySem.EqNone.eq_none_none (fin_bl I q (by simp))
    | bl j => cases ry; exact PySem.EqNone.eq_none_bool (fin_bl I q (by simp))
    | int j => obtain ⟨t', rfl⟩ := ry; exact PySem.EqNone.eq_none_int (fin_bl I q (by simp))
    | str j => obtain ⟨t', rfl⟩ := ry; exact PySem.EqNone.eq_none_str (fin_bl I q (by simp))
    | _ => exact absurd (show false = true from hs) Bool.false_ne_true
  | bl i =>
    cases rx
    cases y with
    | non => cases ry; exact PySem.EqNone.eq_bool_none (fin_bl I q (by simp))
    | bl j => cases ry; exact eq_bool (fin_bl I q dec_bl)
    | str j => obtain ⟨t', rfl⟩ := ry; exact PySem.EqMixed.eq_bool_str (fin_bl I q (by simp))
    | _ => exact absurd (show false = true from hs) Bool.false_ne_true
  | int i =>
    obtain ⟨t, rfl⟩ := rx
    cases y with
    | non => cases ry; exact PySem.EqNone.eq_int_none (fin_bl I q (by simp))
    | int j => obtain ⟨t', rfl⟩ := ry; exact eq_int (fin_bl I q dec_int)
    | str j => obtain ⟨t', rfl⟩ := ry; exact PySem.EqMixed.eq_int_str (fin_bl I q (by simp))
    | _ => exact absurd (show false = true from hs) Bool.false_ne_true
  | str i =>
    obtain ⟨t, rfl⟩ := rx
    cases y with
    | non => cases ry; exact PySem.EqNone.eq_str_none (fin_bl I q (by simp))
    | bl j => cases ry; exact PySem.EqMixed.eq_str_bool (fin_bl I q (by simp))
    | int j => obtain ⟨t', rfl⟩ := ry; exact PySem.EqMixed.eq_str_int (fin_bl I q (by simp))
    | str j => obtain ⟨t', rfl⟩ := ry; exact eq_str (fin_bl I q dec_str)
    | _ => exact absurd (show false = true from hs) Bool.false_ne_true
  | byt i =>
    obtain ⟨t, rfl⟩ := rx
    cases y with
    | byt j => obtain ⟨t', rfl⟩ := ry; exact PySem.W.eq_bytes (fin_bl I q dec_byt)
    | _ => exact absurd (show false = true from hs) Bool.false_ne_true
  | _ => cases y <;> exact absurd (show false = true from hs) Bool.false_ne_true
theorem op_ne : OpR X (compareOp .NotEq) rNe := by
  intro pins s σ H x y v u Q I rx ry h
  obtain ⟨hs, q⟩ := h
  cases x with
  | non =>
    cases rx
    cases y with
    | non => cases ry; exact PySem.EqNone.ne_none_none (fin_bl I q (by simp))
    | bl j => cases ry; exact PySem.EqNone.ne_none_bool (fin_bl I q (by simp))
    | int j => obtain ⟨t', rfl⟩ := ry; exact PySem.EqNone.ne_none_int (fin_bl I q (by simp))
    | str j => obtain ⟨t', rfl⟩ := ry; exact PySem.EqNone.ne_none_str (fin_bl I q (by simp))
    | _ => exact absurd (show false = true from hs) Bool.false_ne_true
  | bl i =>
    cases rx
    cases y with
    | non => cases ry; exact PySem.EqNone.ne_bool_none (fin_bl I q (by simp))
    | bl j => cases ry; exact ne_bool (fin_bl I q (congrArg not dec_bl))
    | str j => obtain ⟨t', rfl⟩ := ry; exact PySem.EqMixed.ne_bool_str (fin_bl I q (by simp))
    | _ => exact absurd (show false = true from hs) Bool.false_ne_true
  | int i =>
    obtain ⟨t, rfl⟩ := rx
    cases y with
    | non => cases ry; exact PySem.EqNone.ne_int_none (fin_bl I q (by simp))
    | int j => obtain ⟨t', rfl⟩ := ry; exact ne_int (fin_bl I q (congrArg not dec_int))
    | str j => obtain ⟨t', rfl⟩ := ry; exact PySem.EqMixed.ne_int_str (fin_bl I q (by simp))
    | _ => exact absurd (show false = true from hs) Bool.false_ne_true
  | str i =>
    obtain ⟨t, rfl⟩ := rx
    cases y with
    | non => cases ry; exact PySem.EqNone.ne_str_none (fin_bl I q (by simp))
    | bl j => cases ry; exact PySem.EqMixed.ne_str_bool (fin_bl I q (by simp))
    | int j => obtain ⟨t', rfl⟩ := ry; exact PySem.EqMixed.ne_str_int (fin_bl I q (by simp))
    | str j => obtain ⟨t', rfl⟩ := ry; exact ne_str (fin_bl I q (congrArg not dec_str))
    | _ => exact absurd (show false = true from hs) Bool.false_ne_true
  | byt i =>
    obtain ⟨t, rfl⟩ := rx
    cases y with
    | byt j => obtain ⟨t', rfl⟩ := ry; exact PySem.W.ne_bytes (fin_bl I q (congrArg not dec_byt))
    | _ => exact absurd (show false = true from hs) Bool.false_ne_true
  | _ => cases y <;> exact absurd (show false = true from hs) Bool.false_ne_true
theorem op_lt : OpR X (compareOp .Lt) (rI0 fun i j => .bl (decide (i < j))) := opB0 fun _ _ _ _ _ _ _ q => lt_int q
theorem op_le : OpR X (compareOp .LtE) (rI0 fun i j => .bl (decide (i ≤ j))) := opB0 fun _ _ _ _ _ _ _ q => le_int q
theorem op_gt : OpR X (compareOp .Gt) (rI0 fun i j => .bl (decide (j < i))) := opB0 fun _ _ _ _ _ _ _ q => gt_int q
theorem op_ge : OpR X (compareOp .GtE) (rI0 fun i j => .bl (decide (j ≤ i))) := opB0 fun _ _ _ _ _ _ _ q => ge_int q
theorem OpR.or {f : Value → Value → Sem Value} {r r' : R2} (h : OpR X f r) (h' : OpR X f r') : OpR X f (fun x y H Q => r x y H Q ∨ r' x y H Q) := by
  intro pins s σ H x y v u Q I rx ry q
  rcases q with q | q
  · exact h pins s σ H x y v u Q I rx ry q
  · exact h' pins s σ H x y v u Q I rx ry q
theorem nomark (b : Expr) {op : CmpOp} (h : op ≠ .In := by decide) (h2 : op ≠ .NotIn := by decide) : behindInMarks op b = false := by
  have e1 : (op == CmpOp.In) = false := by cases op <;> first | rfl | exact absurd rfl h
  have e2 : (op == CmpOp.NotIn) = false := by cases op <;> first | rfl | exact absurd rfl h2
  cases b <;> simp [behindInMarks, e1, e2]
theorem pe_cmpR {op : CmpOp} {r : R2} (ho : OpR X (compareOp op) r) (ha : PE X a ta) (hb : PE X b tb) (hm : behindInMarks op b = false) : PE X (.Compare a [op] [b] pos) (tOp r ta tb) := by
  intro pins s σ H Q I h
  exact wpAny_Compare1 (binT ha hb I h fun v u s2 x y H2 I2 rx ry q => ho pins s2 σ H2 x y v u Q I2 rx ry q) hm
def tTest (t : TE) : TT := fun σ H Q => t σ H fun x H' => ∃ k, x = .bl k ∧ Q k H'
theorem pt_cmpR {op : CmpOp} {r : R2} (ho : OpR X (compareOp op) r) (ha : PE X a ta) (hb : PE X b tb) (hm : behindInMarks op b = false) : PT X (.Compare a [op] [b] pos) (tTest (tOp r ta tb)) := by
  intro pins s σ H Q I h
  refine wpAny_isTrue_Compare1 (thn (ha pins s σ H _ I h) fun v s1 ⟨x, H1, I1, r1, q1⟩ => thn (hb pins s1 σ H1 _ I1 q1) fun u s2 ⟨y, H2, I2, r2, q2⟩ =>
    thn (ho pins s2 σ H2 x y v u _ I2 r1 r2 q2) fun c s3 ⟨z, H3, I3, r3, k, e, q3⟩ => ?_) hm
  subst e
  cases r3
  exact wpAny_truthy_bool ⟨H3, I3, q3⟩
def tChain (r r' : R2) (ta tb tc : TE) : TE := fun σ H Q => ta σ H fun x H1 => tb σ H1 fun y H2 => r x y H2 fun z H3 => ∃ k, z = .bl k ∧
  (if k = true then tc σ H3 fun w' H4 => r' y w' H4 Q else Q (.bl false) H3)
theorem pe_chain {op op' : CmpOp} {r r' : R2} (ho : OpR X (compareOp op) r) (ho' : OpR X (compareOp op') r') (ha : PE X a ta) (hb : PE X b tb) (hc : PE X c tc)
    (hm : lastMarks [op, op'] [b, c] = false := by with_unfolding_all rfl) : PE X (.Compare a [op, op'] [b, c] pos) (tChain r r' ta tb tc) := by
  intro pins s σ H Q I h
  refine Compare_chain (thn (ha pins s σ H _ I h) fun v s1 ⟨x, H1, I1, r1, q1⟩ => chain_link (thn (hb pins s1 σ H1 _ I1 q1) fun u s2 ⟨y, H2, I2, r2, q2⟩ =>
    thn (ho pins s2 σ H2 x y v u _ I2 r1 r2 q2) fun d s3 ⟨z, H3, I3, r3, k, e, q3⟩ => ?_)) hm
  subst e
  cases r3
  refine wpAny_truthy_bool ?_
  cases k with
  | false => exact ite_ff ⟨.bl false, H3, I3, rfl, q3⟩
  | true => exact ite_tt (chain_last (thn (hc pins s3 σ H3 _ I3 q3) fun w' s4 ⟨z', H4, I4, r4, q4⟩ => ho' pins s4 σ H4 y z' u w' Q I4 r2 r4 q4))
theorem line63 : (sizeLine : Nat) < 2 ^ 63 := by rw [sizeLine_eq]; decide
theorem vals1 {x : V} {us : List Value} (r : Vals [x] us) : ∃ u, us = [u] ∧ RelV x u := by
  cases r with
  | cons r1 r2 => cases r2; exact ⟨_, rfl, r1⟩
end
end L2
namespace L2
open PySem PySem.Spec PyProof.Rows
structure ObjM (h : Heap) (x dx C : Addr) (mA : Str → Option Value) : Prop where
  obj : h.get? x = some (PySem.W.instObj C dx)
  ns : h.Ns1 dx mA
  ne : dx ≠ x
theorem lookIn_ns {h : Heap} {dx : Addr} {mA : Str → Option Value} (n : h.Ns1 dx mA) : ∃ od, h.get? dx = some od ∧ ∀ name, PySem.W.lookIn name od = some (mA name) := by
  obtain ⟨o, es, ep, ho, hd, hk, _, hm⟩ := n
  refine ⟨o, ho, fun name => ?_⟩
  have e := hm name
  unfold nsFind findBy at e
  rw [← Array.find?_toList] at e
  unfold PySem.W.lookIn
  rw [hd]
  dsimp only
  split
  · rename_i y q
    rw [q] at e
    exact congrArg some e
  · rename_i q
    rw [q] at e
    have a : es.toList.any (·.refKey) = false := by
      rw [List.any_eq_false]
      intro y hy
      obtain ⟨z, t, hkey⟩ := hk y (Array.mem_toList_iff.mp hy)
      simp [DictEntry.refKey, hkey]
    have a' : ¬ es.toList.any (·.refKey) = true := by rw [a]; exact Bool.false_ne_true
    rw [if_neg a']
    exact congrArg some e
theorem ObjM.look {h : Heap} {x dx C : Addr} {mA : Str → Option Value} (I : ObjM h x dx C mA) : ∃ od, PySem.W.InstAt h x (PySem.W.instObj C dx) C (some od) ∧ ∀ name, PySem.W.lookIn name od = some (mA name) :=
  let ⟨od, ho, hl⟩ := lookIn_ns I.ns
  ⟨od, ⟨I.obj, rfl, rfl, ho⟩, hl⟩
section
variable {prog : Program} {w : World} {A : Around} {E : Value → Shared → Prop} {s : Shared} {K : PySem.W.Frag} {x dx C f : Addr} {mA : Str → Option Value} {name : Str} {v : Value}
theorem get_map {expr : Bool} {Q : Value → Shared → Prop} (X : K.In s.heap) (I : ObjM s.heap x dx C mA) (hg : PySem.W.plainGet K C name = true) (hh : PySem.W.hasDictIn K C = true)
    (ha : PySem.W.findIn K (.ref C) name = some none) (hv : mA name = some v) (hv' : PySem.W.handedIn v = true) (h : Q v { s with toks := s.toks + 1 }) :
    wpAny (model prog w) A (getAttr (.ref x) name expr) Q E s := by
  obtain ⟨od, J, hl⟩ := I.look
  exact PySem.W.get_value X J (PySem.W.plainGet_of hg).1 (PySem.W.findObj_own hh ha rfl (by rw [hl, hv])) hv' h
theorem get_meth {pl : Sem Bool} {Q : Value × List Value → Shared → Prop} (X : K.In s.heap) (I : ObjM s.heap x dx C mA) (hg : PySem.W.plainGet K C name = true)
    (hf : PySem.W.findIn K (.ref C) name = some (some (.ref f))) (ht : PySem.W.isFn K (.ref f) = true) (hv : mA name = none) (h : Q (.ref f, [.ref x]) s) :
    wpAny (model prog w) A (getMethod (.ref x) name pl) Q E s := by
  obtain ⟨od, J, hl⟩ := I.look
  exact PySem.W.method_fn X J (PySem.W.plainGet_of hg).1 (PySem.W.plainGet_of hg).2 hf (beq_iff_eq.mp ht) (by show (PySem.W.lookIn name od).map (·.isSome) = some false; rw [hl, hv]; rfl) h
theorem set_map {ns : List Str} {Q : Unit → Shared → Prop} (X : K.In s.heap) (I : ObjM s.heap x dx C mA)
    (hs : PySem.W.findIn K (.ref C) "__setattr__" = some (some (.builtin "object.__setattr__"))) (hp : PySem.W.plainOver K C = true) (ht : PySem.W.takerIn K C name = some none) (hh : PySem.W.hasDictIn K C = true)
    (hw : PySem.Within mA ns) (hsz : ns.length ≤ sizeLine)
    (h : ∀ h', ObjM h' x dx C (fun y => if y = name then some v else mA y) → Heap.SameBut dx s.heap h' → Q () { s with heap := h', toks := s.toks + 2 }) :
    wpAny (model prog w) A (setAttr (.ref x) name v) Q E s := by
  obtain ⟨od, J, hl⟩ := I.look
  refine PySem.W.set_plain X J hs (PySem.W.osa_open (s := { s with toks := s.toks + 1 }) (r := none) X J hp ht fun b => ?_)
  obtain ⟨cd, hc, hd'⟩ := PySem.W.any_some hh
  have hx : s.heap.get? x = some ⟨.ref C, some dx, .plain, #[]⟩ := I.obj
  refine wpAny_bind (wpAny_pure (wpAny_bind (wpAny_bind (wpAny_loadPart hx (wpAny_bind (PySem.W.Looks.here (s := { s with toks := s.toks + 1 }) (PySem.W.looks_clsIn X hc) ?_))))))
  rw [hd']
  refine wpAny_pure (a := some dx) (wpAny_bind (wpAny_pure (wpAny_bind ?_)))
  refine wpAny_nsSet1 (s := { s with toks := s.toks + 1 }) I.ns fun h' hn2 hs2 => ?_
  obtain ⟨oD, esD, epD, hoD, hdD, hcD⟩ := hn2.count (PySem.Within.cons name v hw)
  refine wpAny_bind (wpAny_lookBehind hoD (by rw [hdD]; exact pastItsLine_dict (Nat.le_trans hcD (by rw [List.length_cons]; omega))) ?_)
  exact wpAny_pure (h _ ⟨(hs2.2 _ (Ne.symm I.ne)).trans I.obj, hn2, I.ne⟩ hs2)
theorem make_map {R : Result → Shared → Prop} {vs : List Value} {kw : List (Str × Value)} (X : K.In s.heap) (hm : PySem.W.makesIn K C = true)
    (hi : PySem.W.findIn K (.ref C) "__init__" = some (some (.ref f))) (hf : PySem.W.typeIn K (.ref f) = some (.type "function"))
    (h : codeAny (model prog w) (A.under (.builtin "type.__call__" ⟨.ref C :: vs, kw⟩)) (.call (.ref f) ⟨.ref (s.heap.objs.size + 1) :: vs, kw⟩) (PySem.W.InitBack (s.heap.objs.size + 1) R)
      { s with heap := (s.heap.push PySem.W.emptyDict).push (PySem.W.instObj C s.heap.objs.size) }) :
    codeAny (model prog w) A (.call (.ref C) ⟨vs, kw⟩) R s := by
  obtain ⟨hh, g, d, t, os⟩ := s
  exact PySem.W.make_core (PySem.W.makes_of X hm) (PySem.W.looks_findIn X hi) (fun self => PySem.W.bind_fn X self hf) (.inl rfl) h
end
def putF (f : Str) (v : V) : List (Str × V) → List (Str × V)
  | [] => [(f, v)]
  | (g, x) :: r => if g = f then (g, v) :: r else (g, x) :: putF f v r
theorem lookup_putF (f g : Str) (v : V) : ∀ fs : List (Str × V), (putF f v fs).lookup g = if g = f then some v else fs.lookup g
  | [] => by
    show List.lookup g [(f, v)] = _
    by_cases h : g = f
    · have hb : (g == f) = true := beq_iff_eq.mpr h
      simp only [List.lookup, hb, if_pos h]
    · have hb : (g == f) = false := beq_eq_false_iff_ne.mpr h
      simp only [List.lookup, hb, if_neg h]
  | (k, x) :: r => by
    have ih := lookup_putF f g v r
    rw [show putF f v ((k, x) :: r) = (if k = f then (k, v) :: r else (k, x) :: putF f v r) from rfl]
    by_cases hk : k = f
    · rw [if_pos hk]
      by_cases h : g = k
      · have hb : (g == k) = true := beq_iff_eq.mpr h
        simp only [List.lookup, hb, if_pos (h.trans hk)]
      · have hb : (g == k) = false := beq_eq_false_iff_ne.mpr h
        simp only [List.lookup, hb, if_neg (fun e : g = f => h (e.trans hk.symm))]
    · rw [if_neg hk]
      by_cases h : g = k
      · have hb : (g == k) = true := beq_iff_eq.mpr h
        simp only [List.lookup, hb, if_neg (fun e : g = f => hk (h.symm.trans e))]
      · have hb : (g == k) = false := beq_eq_false_iff_ne.mpr h
        simp only [List.lookup, hb]
        exact ih
theorem keys_putF (f : Str) (v : V) : ∀ fs : List (Str × V), f ∈ (putF f v fs).map (·.1) ∧ ∀ g, g ∈ fs.map (·.1) → g ∈ (putF f v fs).map (·.1)
  | [] => ⟨by simp [putF], fun g h => by simp at h⟩
  | (k, x) :: r => by
    obtain ⟨i1, i2⟩ := keys_putF f v r
    rw [show putF f v ((k, x) :: r) = (if k = f then (k, v) :: r else (k, x) :: putF f v r) from rfl]
    by_cases hk : k = f
    · rw [if_pos hk]
      subst hk
      exact ⟨by simp, fun g h => by simpa using h⟩
    · rw [if_neg hk]
      refine ⟨?_, fun g h => ?_⟩
      · rw [List.map_cons]
        exact List.mem_cons_of_mem _ i1
      · rw [List.map_cons] at h ⊢
        rcases List.mem_cons.mp h with e | e
        · exact List.mem_cons.mpr (.inl e)
        · exact List.mem_cons_of_mem _ (i2 g e)
theorem length_putF (f : Str) (v : V) : ∀ fs : List (Str × V), (putF f v fs).length ≤ fs.length + 1
  | [] => by simp [putF]
  | (k, x) :: r => by
    have ih := length_putF f v r
    rw [show putF f v ((k, x) :: r) = (if k = f then (k, v) :: r else (k, x) :: putF f v r) from rfl]
    by_cases hk : k = f
    · rw [if_pos hk, List.length_cons, List.length_cons]; omega
    · rw [if_neg hk, List.length_cons, List.length_cons]; omega
theorem RelO.some_of {v : V} {o : Option Value} (r : RelO (some v) o) : ∃ u, o = some u ∧ RelV v u := by
  cases o with
  | none => exact (show False from r).elim
  | some u => exact ⟨u, rfl, r⟩
theorem RelO.none_of {o : Option Value} (r : RelO none o) : o = none := by
  cases o with
  | none => rfl
  | some u => exact (show False from r).elim
theorem handed_of {v : V} {u : Value} (r : RelV v u) : PySem.W.handedIn u = true := by
  cases v with
  | non => cases (show u = Value.none from r); rfl
  | bl b => cases (show u = Value.bool b from r); rfl
  | int i => obtain ⟨t, e⟩ := (show ∃ t, u = Value.int i t from r); cases e; rfl
  | str x => obtain ⟨t, e⟩ := (show ∃ t, u = Value.str x t from r); cases e; rfl
  | byt b => obtain ⟨t, e⟩ := (show ∃ t, u = Value.bytes b t from r); cases e; rfl
  | flt b => obtain ⟨t, e⟩ := (show ∃ t, u = Value.float b t from r); cases e; rfl
  | ref a => cases (show u = Value.ref a from r); rfl
  | ty n => cases (show u = Value.type n from r); rfl
section
variable {P : Program} {w : World} {H H' : Hp} {h h' : Heap} {a C dx : Addr} {fs fs' : List (Str × V)}
theorem ins_get (hok : HOk P w H h) (e : H a = some (.ins C dx fs)) : ∃ mA, ObjM h a dx C mA ∧ (∀ f, RelO (fs.lookup f) (mA f)) ∧ PySem.Within mA (fs.map (·.1)) ∧ fs.length ≤ 1000 ∧ H dx = some (.own a) := by
  obtain ⟨d, z, ne, ob, mA, n, r, q⟩ := (show ObjOk P w H h a (.ins C dx fs) from hok a _ e)
  exact ⟨mA, ⟨ob, n, ne⟩, r, q, z, d⟩
end
structure Cls (K : PySem.W.Frag) (C : Addr) : Prop where
  pg : PySem.W.plainGet K C Str.empty = true
  hd : PySem.W.hasDictIn K C = true
  po : PySem.W.plainOver K C = true
  sa : PySem.W.findIn K (.ref C) "__setattr__" = some (some (.builtin "object.__setattr__"))
theorem Cls.get {K : PySem.W.Frag} {C : Addr} (c : Cls K C) (f : Str) : PySem.W.plainGet K C f = true := c.pg
def NoAttr (K : PySem.W.Frag) (C : Addr) (f : Str) : Prop := PySem.W.findIn K (.ref C) f = some none
theorem NoAttr.taker {K : PySem.W.Frag} {C : Addr} {f : Str} (n : NoAttr K C f) : PySem.W.takerIn K C f = some none := by
  unfold PySem.W.takerIn
  rw [show PySem.W.findIn K (.ref C) f = some none from n]
  rfl
structure Meth (K : PySem.W.Frag) (C : Addr) (m : Str) (f : Addr) : Prop where
  at_ : PySem.W.findIn K (.ref C) m = some (some (.ref f))
  fn : PySem.W.isFn K (.ref f) = true
  kp : PySem.W.keepIn K (.ref f) = true
section
variable {X : Cx} {pins : List (Addr × Obj)} {σ : St} {H : Hp} {s : Shared} {a C dx : Addr} {fs : List (Str × V)} {f : Str} {v : V} {A : Around} {E : Value → Shared → Prop}
theorem getattr_ok {b : Bool} {Q : Value → Shared → Prop} (I : Inv X pins σ H s) (e : H a = some (.ins C dx fs)) (c : Cls X.K C) (n : NoAttr X.K C f) (l : fs.lookup f = some v)
    (h : ∀ u s', Inv X pins σ H s' → RelV v u → Q u s') : wpAny (model X.prog X.w) A (getAttr (.ref a) f b) Q E s := by
  obtain ⟨mA, O, r, _, _, _⟩ := ins_get I.hok e
  obtain ⟨u, hu, ru⟩ := RelO.some_of (v := v) (o := mA f) (by rw [← l]; exact r f)
  exact get_map I.kIn O (c.get f) c.hd n hu (handed_of ru) (h u _ (I.tok _) ru)
theorem getmeth_ok {m : Str} {g : Addr} {pl : Sem Bool} {Q : Value × List Value → Shared → Prop} (I : Inv X pins σ H s) (e : H a = some (.ins C dx fs)) (c : Cls X.K C) (k : Meth X.K C m g) (l : fs.lookup m = none)
    (h : Q (.ref g, [.ref a]) s) : wpAny (model X.prog X.w) A (getMethod (.ref a) m pl) Q E s := by
  obtain ⟨mA, O, r, _, _, _⟩ := ins_get I.hok e
  have hn : mA m = none := RelO.none_of (by rw [← l]; exact r m)
  exact get_meth I.kIn O (c.get m) k.at_ k.fn hn h
theorem setattr_ok {y : V} {u : Value} {Q : Unit → Shared → Prop} (I : Inv X pins σ H s) (e : H a = some (.ins C dx fs)) (c : Cls X.K C) (n : NoAttr X.K C f) (hl : fs.length < 1000) (ry : RelV y u)
    (h : ∀ s', Inv X pins σ (upd H a (.ins C dx (putF f y fs))) s' → Q () s') : wpAny (model X.prog X.w) A (setAttr (.ref a) f u) Q E s := by
  obtain ⟨mA, O, r, wi, _, ho⟩ := ins_get I.hok e
  have hz : (fs.map (·.1)).length ≤ sizeLine := by rw [List.length_map, sizeLine_eq]; omega
  refine set_map I.kIn O c.sa c.po n.taker c.hd wi hz fun h' O' sb => h _ ?_
  have hd : ∃ o, h'.get? dx = some o := let ⟨o, _, _, e', _⟩ := O'.ns; ⟨o, e'⟩
  refine I.write (x := a) (e := dx) (by rw [e]; exact True.intro) (.inr ho) (fun b q hb z => (sb.2 b hb).trans z) hd ?_
  refine ⟨by rw [upd_ne O.ne]; exact ho, ?_, O.ne, O'.obj, _, O'.ns, fun g => ?_, fun g hg => ?_⟩
  · have := length_putF f y fs; omega
  · show RelO ((putF f y fs).lookup g) (if g = f then some u else mA g)
    rw [lookup_putF]
    by_cases q : g = f
    · rw [if_pos q, if_pos q]; exact ry
    · rw [if_neg q, if_neg q]; exact r g
  · by_cases q : g = f
    · rw [q]; exact (keys_putF f y fs).1
    · refine (keys_putF f y fs).2 g (wi g fun z => hg ?_)
      show (if g = f then some u else mA g) = none
      rw [if_neg q]; exact z
theorem Inv.made (I : Inv X pins σ H s) : Inv X pins σ (upd (upd H s.heap.objs.size (.own (s.heap.objs.size + 1))) (s.heap.objs.size + 1) (.ins C s.heap.objs.size []))
    { s with heap := (s.heap.push PySem.W.emptyDict).push (PySem.W.instObj C s.heap.objs.size) } := by
  have e1 : (s.heap.push PySem.W.emptyDict).get? s.heap.objs.size = some PySem.W.emptyDict := Heap.get?_push_size s.heap rfl
  have e2 : ((s.heap.push PySem.W.emptyDict).push (PySem.W.instObj C s.heap.objs.size)).get? (s.heap.objs.size + 1) = some (PySem.W.instObj C s.heap.objs.size) := by
    have := Heap.get?_push_size (s.heap.push PySem.W.emptyDict) (o := PySem.W.instObj C s.heap.objs.size) rfl
    rwa [Heap.size_push] at this
  have e3 : (s.heap.push PySem.W.emptyDict).Ns s.heap.objs.size (fun _ => none) := ⟨PySem.W.emptyDict, #[], _, e1, rfl, (fun e he => absurd he (by simp)), fun _ => rfl⟩
  have I1 := I.laid (a := s.heap.objs.size) (o := .own (s.heap.objs.size + 1)) (h' := s.heap.push PySem.W.emptyDict) (t' := s.toks) (fun b u q => Heap.get?_push_of_some _ q) (Nat.le_refl _) ⟨_, e1⟩
  refine I1.laid (a := s.heap.objs.size + 1) (o := .ins C s.heap.objs.size []) (t' := s.toks) (fun b u q => Heap.get?_push_of_some _ q) (Nat.le_of_eq (Heap.size_push _ _)) ?_
  have ne : s.heap.objs.size ≠ s.heap.objs.size + 1 := Nat.ne_of_lt (Nat.lt_succ_self _)
  refine ⟨by rw [upd_ne ne, upd_same], Nat.zero_le _, ne, e2, fun _ => none, (Heap.Ns1.of_empty e3).at fun o q => Heap.get?_push_of_some _ q, fun _ => True.intro, fun y hy => absurd rfl hy⟩
theorem attr_of {prog : Program} {w : World} {env : Env} {e : Expr} {f : Str} {pos : Pos} {s : Shared} {Q : Value → Shared → Prop} (hb : attributeBase e f env (eval e env) = eval e env)
    (h : wpAny (model prog w) A (eval e env) (fun o s₁ => wpAny (model prog w) A (getAttr o f true) Q E s₁) E s) : wpAny (model prog w) A (eval (.Attribute e f pos) env) Q E s :=
  Attribute_any_ h (by rw [arm_eval_Attribute, hb])
end
def tFld (K : PySem.W.Frag) (ta : TE) (f : Str) : TE := fun σ H Q => ta σ H fun x H1 => ∃ a C dx fs v, x = .ref a ∧ H1 a = some (.ins C dx fs) ∧ Cls K C ∧ NoAttr K C f ∧ fs.lookup f = some v ∧ Q v H1
def sFld (K : PySem.W.Frag) (ta tv : TE) (f : Str) : TS := fun D σ H => tv σ H fun y H1 => ta σ H1 fun x H2 => ∃ a C dx fs, x = .ref a ∧ H2 a = some (.ins C dx fs) ∧ Cls K C ∧ NoAttr K C f ∧ fs.length < 1000 ∧
  D.nx σ (upd H2 a (.ins C dx (putF f y fs)))
def InOp (X : Cx) (op : Operator) (rd : V → V → Hp → VK → Prop) : Prop :=
  ∀ (pins : List (Addr × Obj)) (s : Shared) (σ : St) (H : Hp) (x y : V) (u v : Value) (Q : VK), Inv X pins σ H s → RelV x u → RelV y v → rd x y H Q → wpAny (model X.prog X.w) X.A (inplaceOp op u v) (EP X pins σ Q) X.xe s
def sFldAug (K : PySem.W.Frag) (ta tv : TE) (rd : V → V → Hp → VK → Prop) (f : Str) : TS := fun D σ H => ta σ H fun x H1 => ∃ a C dx fs v, x = .ref a ∧ H1 a = some (.ins C dx fs) ∧ Cls K C ∧ NoAttr K C f ∧ fs.lookup f = some v ∧
  tv σ H1 fun y H2 => rd v y H2 fun z H3 => ∃ dx' fs', H3 a = some (.ins C dx' fs') ∧ fs'.length < 1000 ∧ D.nx σ (upd H3 a (.ins C dx' (putF f z fs')))
section
variable {X : Cx} {o e value : Expr} {f : Str} {pos pos' tpos : Pos} {ta tv : TE}
theorem pe_fld (he : PE X e ta) (hb : attributeBase e f X.env (eval e X.env) = eval e X.env) : PE X (.Attribute e f pos) (tFld X.K ta f) := by
  intro pins s σ H Q I h
  refine attr_of hb (thn (he pins s σ H _ I h) fun u s1 ⟨x, H1, I1, rx, a, C, dx, fs, v, ex, ea, c, n, l, q⟩ => ?_)
  subst ex
  obtain rfl : u = Value.ref a := rx
  exact getattr_ok I1 ea c n l fun u' s2 I2 ru => ⟨v, H1, I2, ru, q⟩
theorem ps_fld (ha : PE X o ta) (hv : PE X value tv) (hs : swapsWith value (some (.Attribute o f pos')) pos.line X.env = pure false) : PS X (.Assign [.Attribute o f pos'] value pos) (sFld X.K ta tv f) := by
  intro pins s σ H D I h
  refine plainObj_wpAny_Assign_Attribute (thn (hv pins s σ H _ I h) fun u s1 ⟨y, H1, I1, ry, q⟩ => thn (ha pins s1 σ H1 _ I1 q) fun ov s2 ⟨x, H2, I2, rx, a, C, dx, fs, ex, ea, c, n, l, q2⟩ => ?_) hs
  subst ex
  obtain rfl : ov = Value.ref a := rx
  exact setattr_ok I2 ea c n l ry fun s3 I3 => ⟨σ, _, I3, q2⟩
theorem ps_fldaug {op : Operator} {rd : V → V → Hp → VK → Prop} (ha : PE X o ta) (hv : PE X value tv) (hop : InOp X op rd) : PS X (.AugAssign (.Attribute o f tpos) op value pos) (sFldAug X.K ta tv rd f) := by
  intro pins s σ H D I h
  refine wpAny_AugAssign_AttributeAny (thn (ha pins s σ H _ I h) fun ov s1 ⟨x, H1, I1, rx, a, C, dx, fs, v, ex, ea, c, n, l, q⟩ => ?_)
  subst ex
  obtain rfl : ov = Value.ref a := rx
  refine getattr_ok I1 ea c n l fun u s2 I2 ru => thn (hv pins s2 σ H1 _ I2 q) fun w3 s3 ⟨y, H2, I3, ry, q3⟩ => thn (hop pins s3 σ H2 v y u w3 _ I3 ru ry q3) fun w4 s4 ⟨z, H3, I4, rz, dx', fs', ea', l', q4⟩ => ?_
  exact setattr_ok I4 ea' c n l' rz fun s5 I5 => ⟨σ, _, I5, q4⟩
def rAdd : V → V → Hp → VK → Prop := fun x y H Q => ∃ i j, x = .int i ∧ y = .int j ∧ Q (.int (i + j)) H
theorem in_add : InOp X .Add rAdd := by
  rintro pins s σ H x y u v Q I rx ry ⟨i, j, rfl, rfl, q⟩
  obtain ⟨t, rfl⟩ := (show ∃ t, u = Value.int i t from rx)
  obtain ⟨t', rfl⟩ := (show ∃ t', v = Value.int j t' from ry)
  exact PyProof.Rows.iadd_int ⟨.int (i + j), H, I.tok _, ⟨_, rfl⟩, q⟩
end
end L2
namespace L2
open PySem PySem.Spec PyProof.Rows
structure Room (k : Nat) (A : Around) : Prop where
  hd : A.handled = none
  dp : A.depth + 3 * k + 5 < recursionLimit
  un : A.units + 16 * k + 200 < cLine
theorem Room.mono {j k : Nat} {A : Around} (r : Room k A) (h : j ≤ k) : Room j A := ⟨r.hd, by have := r.dp; omega, by have := r.un; omega⟩
theorem Room.deeper {k : Nat} {A : Around} (r : Room (k + 1) A) (env : Env) : Room k (A.deeper env) :=
  ⟨r.hd, by have := r.dp; show A.depth + 1 + 3 * k + 5 < _; omega, by have := r.un; show A.units + 3 + 16 * k + 200 < _; omega⟩
theorem Room.in1 {k : Nat} {A : Around} (r : Room (k + 1) A) : Room k A.in1 :=
  ⟨r.hd, by have := r.dp; show A.depth + 3 * k + 5 < _; omega, by have := r.un; show A.units + 1 + 16 * k + 200 < _; omega⟩
theorem make_depth {A : Around} {C : Addr} {us : List Value} {kw : List (Str × Value)} : (A.under (.builtin "type.__call__" ⟨.ref C :: us, kw⟩)).depth = A.depth + 1 := by
  first | rfl | simp [Around.under, Code.weight, Code.isCreation, Code.isGuard, Code.isCaller, Code.frames, Code.isFrame, guardIds]
theorem make_units {A : Around} {C : Addr} {us : List Value} {kw : List (Str × Value)} : (A.under (.builtin "type.__call__" ⟨.ref C :: us, kw⟩)).units = A.units + 1 := by
  first | rfl | simp [Around.under, Code.cUnits, Code.frames, Code.isFrame]
theorem Room.make {k : Nat} {A : Around} (r : Room (k + 1) A) (C : Addr) (us : List Value) (kw : List (Str × Value)) : Room k (A.under (.builtin "type.__call__" ⟨.ref C :: us, kw⟩)) :=
  ⟨r.hd, by have := r.dp; rw [make_depth]; omega, by have := r.un; rw [make_units]; omega⟩
theorem Room.depth {k : Nat} {A : Around} (r : Room k A) : A.depth < recursionLimit := by have := r.dp; omega
theorem Room.units {k : Nat} {A : Around} (r : Room k A) : A.units + 64 < cLine := by have := r.un; omega
def tNil : TA := fun _ H Q => Q [] H
def tCons (ta : TE) (tr : TA) : TA := fun σ H Q => ta σ H fun x H1 => tr σ H1 fun xs H2 => Q (x :: xs) H2
section
variable {X : Cx} {e : Expr} {es : List Expr} {te : TE} {t : TA} {pos : Pos}
theorem pa_nil : PA X [] tNil := fun _ _ _ _ H Q I h => Calls.spliced_nil ⟨[], H, I, .nil, h⟩
theorem pa_cons (ha : PE X e te) (hr : PA X es t) (hs : starEach (e :: es) X.env = (false, eval e X.env) :: starEach es X.env := by rfl) : PA X (e :: es) (tCons te t) := by
  intro pos pins s σ H Q I h
  rw [hs]
  show wpAny _ _ (spliced ((false, eval e X.env) :: backTo pos (starEach es X.env))) _ _ s
  refine Calls.spliced_cons (thn (ha pins s σ H _ I h) fun u s1 ⟨x, H1, I1, r1, q1⟩ => ?_)
  exact thn (hr pos pins s1 σ H1 _ I1 q1) fun us s2 ⟨xs, H2, I2, r2, q2⟩ => ⟨x :: xs, H2, I2, .cons r1 r2, q2⟩
def tLst (t : TA) : TE := fun σ H Q => t σ H fun xs H1 => xs.length ≤ sizeLine ∧ ∀ p, H1 p = none → Q (.ref p) (upd H1 p (.lst xs))
theorem pe_lst (h : PA X es t) : PE X (.List es pos) (tLst t) := by
  intro pins s σ H Q I hq
  refine wpAny_List_spliced (thn (h pos pins s σ H _ I hq) fun us s1 ⟨xs, H1, I1, r, z, q⟩ => ⟨by rw [← r.length]; exact z, ?_⟩)
  have hf : H1 s1.heap.objs.size = none := I1.hok.fresh (Nat.le_refl _)
  refine ⟨.ref s1.heap.objs.size, upd H1 s1.heap.objs.size (.lst xs), I1.laid (t' := s1.toks) (fun b u e => Heap.get?_push_of_some _ e) (Nat.le_refl _) ?_, rfl, q _ hf⟩
  exact ⟨z, us, 0, r, Heap.get?_push_size _ rfl⟩
end
abbrev Sp := List V → Hp → VK → XK → Prop
abbrev CXT := List Env → Hp → Shared → XK → Value → Shared → Prop
structure Env0 (P : Program) (w : World) (K : PySem.W.Frag) (mg : Str → Option Value) (base : Heap) (A : Around) (outer : List Env) (s : Shared) (H : Hp) : Prop where
  frames : A.frames = some outer
  mod : Mod K mg base
  bs : ∀ b o, base.get? b = some o → s.heap.get? b = some o ∧ H b = none
  bsz : base.objs.size ≤ s.heap.objs.size
  funs : s.heap.FunFrames base outer
  frf : ∀ b ∈ frs outer, H b = none
  hok : HOk P w H s.heap
  bare : AllBare s.gens
def CE (outer : List Env) (P : Program) (w : World) (H : Hp) (s : Shared) (Q : VK) (u : Value) (s' : Shared) : Prop :=
  ∃ v H', s'.os = s.os ∧ AllBare s'.gens ∧ Un (frs outer) [] H H' s.heap s'.heap ∧ HOk P w H' s'.heap ∧ RelV v u ∧ Q v H'
def CR (CX : CXT) (outer : List Env) (P : Program) (w : World) (H : Hp) (s : Shared) (Q : VK) (E : XK) (r : Result) (s' : Shared) : Prop :=
  match r with
  | .ok (.ret u) => CE outer P w H s Q u s'
  | .ok _ => False
  | .error e => CX outer H s E e s'
structure FnOk (P : Program) (w : World) (K : PySem.W.Frag) (mg : Str → Option Value) (base : Heap) (CX : CXT) (k : Nat) (f : Addr) (fd : FuncData) (ps : List Str) (sp : Sp) : Prop where
  len : ∀ vs H Q E, sp vs H Q E → vs.length = ps.length
  run : ∀ (A : Around) (outer : List Env) (s : Shared) (H : Hp) (args : Args) (us : List Value) (vs : List V) (Q : VK) (E : XK), Room k A → Env0 P w K mg base A outer s H → BindsTo s fd args (ps.zip us) → Vals vs us → sp vs H Q E →
    codeAny (model P w) A (.call (.ref f) args) (CR CX outer P w H s Q E) s
theorem FnOk.mono {P : Program} {w : World} {K : PySem.W.Frag} {mg : Str → Option Value} {base : Heap} {CX : CXT} {j k : Nat} {f : Addr} {fd : FuncData} {ps : List Str} {sp : Sp} (F : FnOk P w K mg base CX j f fd ps sp) (h : j ≤ k) :
    FnOk P w K mg base CX k f fd ps sp := ⟨F.len, fun A outer s H args us vs Q E hr => F.run A outer s H args us vs Q E (hr.mono h)⟩
theorem FnOk.imp {P : Program} {w : World} {K : PySem.W.Frag} {mg : Str → Option Value} {base : Heap} {CX : CXT} {k : Nat} {f : Addr} {fd : FuncData} {ps : List Str} {sp sp' : Sp} (F : FnOk P w K mg base CX k f fd ps sp)
    (h : ∀ vs H Q E, sp' vs H Q E → sp vs H Q E) : FnOk P w K mg base CX k f fd ps sp' :=
  ⟨fun vs H Q E q => F.len vs H Q E (h _ _ _ _ q), fun A outer s H args us vs Q E hr he hb hv hs => F.run A outer s H args us vs Q E hr he hb hv (h _ _ _ _ hs)⟩
theorem Env0.make {P : Program} {w : World} {K : PySem.W.Frag} {mg : Str → Option Value} {base : Heap} {A : Around} {outer : List Env} {s : Shared} {H : Hp} (e : Env0 P w K mg base A outer s H) (C : Addr) (us : List Value) (kw : List (Str × Value)) :
    Env0 P w K mg base (A.under (.builtin "type.__call__" ⟨.ref C :: us, kw⟩)) outer s H := ⟨by first | exact e.frames | (simpa [Around.under, Code.envs, Code.isFrame, pushEnvs] using e.frames), e.mod, e.bs, e.bsz, e.funs, e.frf, e.hok, e.bare⟩
theorem Env0.in1 {P : Program} {w : World} {K : PySem.W.Frag} {mg : Str → Option Value} {base : Heap} {A : Around} {outer : List Env} {s : Shared} {H : Hp} (e : Env0 P w K mg base A outer s H) :
    Env0 P w K mg base A.in1 outer s H := ⟨e.frames, e.mod, e.bs, e.bsz, e.funs, e.frf, e.hok, e.bare⟩
section
variable {X : Cx} {pins : List (Addr × Obj)} {σ : St} {H : Hp} {s s' : Shared}
theorem Inv.env0 (I : Inv X pins σ H s) : Env0 X.prog X.w X.K X.mg X.base X.A X.stack s H :=
  ⟨I.ok.frames, I.ok.mod, I.bs, Nat.le_trans I.ok.bsz I.sz, I.stack, I.stkFree, I.hok, I.bare⟩
theorem Inv.after {Q : VK} {u : Value} (I : Inv X pins σ H s) (h : CE X.stack X.prog X.w H s Q u s') : EP X pins σ Q u s' := by
  obtain ⟨v, H', os, bare, un, hok, r, q⟩ := h
  obtain ⟨hh, g, d, t, os'⟩ := s'
  obtain rfl : os' = s.os := os
  exact ⟨v, H', I.call (h' := hh) (g' := g) (d' := d) (t' := t) (ch := []) un hok bare (fun b z => absurd z (by simp)), r, q⟩
end
def tCall (sp : Sp) (dvs : List V) (E : XK) (t : TA) : TE := fun σ H Q => t σ H fun vs H1 => sp (vs ++ dvs) H1 Q E
def tMeth (C : Addr) (m : Str) (sp : Sp) (dvs : List V) (E : XK) (ta : TE) (t : TA) : TE := fun σ H Q => ta σ H fun x H1 => ∃ a dx fs, x = .ref a ∧ H1 a = some (.ins C dx fs) ∧ fs.lookup m = none ∧
  t σ H1 fun vs H2 => sp (x :: (vs ++ dvs)) H2 Q E
def tMake (C : Addr) (sp : Sp) (dvs : List V) (E : XK) (t : TA) : TE := fun σ H Q => t σ H fun vs H1 => ∀ x dx, H1 x = none → H1 dx = none → dx ≠ x →
  sp (.ref x :: (vs ++ dvs)) (upd (upd H1 dx (.own x)) x (.ins C dx [])) (fun v H2 => v = .non ∧ Q (.ref x) H2) E
def Binds (K : PySem.W.Frag) (fd : FuncData) (ps : List Str) (ds : List Value) : Prop :=
  ∀ (s : Shared) (us : List Value), K.In s.heap → (us ++ ds).length = ps.length → BindsTo s fd ⟨us, []⟩ (ps.zip (us ++ ds))
theorem Binds.all {K : PySem.W.Frag} {fd : FuncData} {ps : List Str} (h : ∀ us : List Value, us.length = ps.length → bindArgs fd ⟨us, []⟩ = pure (ps.zip us)) : Binds K fd ps [] := fun s us _ hl => by
  rw [List.append_nil] at hl ⊢
  exact .of_eq (h us hl)
def Passes (CX : CXT) (X : Cx) (E : XK) : Prop := ∀ (pins : List (Addr × Obj)) (σ : St) (H : Hp) (s : Shared) (e : Value) (s' : Shared), Inv X pins σ H s → CX X.stack H s E e s' → X.xe e s'
section
variable {X : Cx} {CX : CXT} {k : Nat} {f C : Addr} {fd : FuncData} {ps : List Str} {sp : Sp} {dvs : List V} {ds : List Value} {E : XK} {x m : Str} {p pos apos : Pos} {e o : Expr} {es : List Expr} {ta : TE} {t : TA}
theorem run_fn {pins : List (Addr × Obj)} {σ : St} {H : Hp} {s : Shared} {Q : VK} {us : List Value} {vs : List V} (F : FnOk X.prog X.w X.K X.mg X.base CX k f fd ps sp) (hr : Room k X.A) (hb : Binds X.K fd ps ds) (hd : Vals dvs ds) (hx : Passes CX X E)
    (I : Inv X pins σ H s) (r : Vals vs us) (h : sp (vs ++ dvs) H Q E) : wpAny (model X.prog X.w) X.A (call (.ref f) us) (EP X pins σ Q) X.xe s := by
  have r2 : Vals (vs ++ dvs) (us ++ ds) := r.append hd
  have hl : (us ++ ds).length = ps.length := by rw [← r2.length]; exact F.len _ _ _ _ h
  refine wpAny_call (codeAny_mono (F.run X.A X.stack s H ⟨us, []⟩ (us ++ ds) (vs ++ dvs) Q E hr I.env0 (hb s us I.kIn hl) r2 h) fun r s' hq => ?_)
  cases r with
  | error e => exact hx pins σ H s e s' I hq
  | ok fl =>
    cases fl with
    | ret u => exact I.after hq
    | next => exact False.elim hq
    | brk => exact False.elim hq
    | cont => exact False.elim hq
theorem pe_call (F : FnOk X.prog X.w X.K X.mg X.base CX k f fd ps sp) (hr : Room k X.A) (hg : Gl X x) (hm : X.mg x = some (.ref f)) (hk : PySem.W.keepIn X.K (.ref f) = true) (hb : Binds X.K fd ps ds) (hd : Vals dvs ds) (hx : Passes CX X E)
    (ha : PA X (e :: es) t) (hdb : (x == ("__debug__" : Str)) = false := by decide) (he : starEach (e :: es) X.env = (false, eval e X.env) :: starEach es X.env := by rfl) (hpl : (backTo pos (starEach es X.env)).any (·.1) = false := by rfl) :
    PE X (.Call (.Name x p) (e :: es) [] pos) (tCall sp dvs E t) := by
  intro pins s σ H Q I h
  refine wpAny_Call_Name_kw (ld_glob I hg hm ?_ hdb)
  refine PySem.W.callWith_K (h₀ := X.base) I.ok.mod.kin hk (thn (ha pos pins s σ H _ I h) fun us s1 ⟨vs, H1, I1, r, q⟩ => ⟨I1.kIn, ?_⟩) he hpl
  exact run_fn F hr hb hd hx I1 r q
theorem pe_meth {pl : Sem Bool} (he : PE X o ta) (c : Cls X.K C) (hm : Meth X.K C m f) (F : FnOk X.prog X.w X.K X.mg X.base CX k f fd ps sp) (hr : Room k X.A) (hb : Binds X.K fd ps ds) (hd : Vals dvs ds) (hx : Passes CX X E) (ha : PA X (e :: es) t)
    (hst : starEach (e :: es) X.env = (false, eval e X.env) :: starEach es X.env := by rfl) (hpl : (backTo pos (starEach es X.env)).any (·.1) = false := by rfl)
    (ht : eval (.Call (.Attribute o m apos) (e :: es) [] pos) X.env = (do
      let ov ← eval o X.env
      standAt apos.atName
      let (f, first) ← holding [ov] (getMethod ov m pl)
      callWith pos f first (backTo pos (starEach (e :: es) X.env)) (backToKw pos (keywordEach [] X.env))) := by rfl) :
    PE X (.Call (.Attribute o m apos) (e :: es) [] pos) (tMeth C m sp dvs E ta t) := by
  intro pins s σ H Q I h
  refine PySem.W.methodCall_KW (pl := pl) (thn (he pins s σ H _ I h) fun u s1 ⟨x, H1, I1, rx, a, dx, fs, ex, ea, l, q⟩ => ?_) ht
  subst ex
  obtain rfl : u = Value.ref a := rx
  refine getmeth_ok I1 ea c hm l ?_
  refine PySem.W.callWith_K (first := [.ref a]) (h₀ := X.base) I.ok.mod.kin hm.kp (thn (ha pos pins s1 σ H1 _ I1 q) fun us s2 ⟨vs, H2, I2, r, q2⟩ => ⟨I2.kIn, ?_⟩) hst hpl
  exact run_fn (us := .ref a :: us) (vs := .ref a :: vs) F hr hb hd hx I2 (.cons rfl r) q2
structure Mk (K : PySem.W.Frag) (C f : Addr) : Prop where
  makes : PySem.W.makesIn K C = true
  init : PySem.W.findIn K (.ref C) "__init__" = some (some (.ref f))
  fn : PySem.W.isFn K (.ref f) = true
  kp : PySem.W.keepIn K (.ref C) = true
theorem run_make {pins : List (Addr × Obj)} {σ : St} {H : Hp} {s : Shared} {Q : VK} {us : List Value} {vs : List V} (M : Mk X.K C f) (F : FnOk X.prog X.w X.K X.mg X.base CX k f fd ps sp) (hr : Room (k + 1) X.A) (hb : Binds X.K fd ps ds) (hd : Vals dvs ds)
    (hx : Passes CX X E) (I : Inv X pins σ H s) (r : Vals vs us)
    (h : ∀ x dx, H x = none → H dx = none → dx ≠ x → sp (.ref x :: (vs ++ dvs)) (upd (upd H dx (.own x)) x (.ins C dx [])) (fun v H2 => v = .non ∧ Q (.ref x) H2) E) :
    wpAny (model X.prog X.w) X.A (call (.ref C) us) (EP X pins σ Q) X.xe s := by
  have hq := h (s.heap.objs.size + 1) s.heap.objs.size (I.hok.fresh (Nat.le_succ _)) (I.hok.fresh (Nat.le_refl _)) (Nat.ne_of_lt (Nat.lt_succ_self _))
  have I2 := Inv.made (C := C) I
  have r2 : Vals (V.ref (s.heap.objs.size + 1) :: (vs ++ dvs)) (Value.ref (s.heap.objs.size + 1) :: (us ++ ds)) := .cons rfl (r.append hd)
  have hl : (Value.ref (s.heap.objs.size + 1) :: us ++ ds).length = ps.length := by
    have e := r2.length
    rw [F.len _ _ _ _ hq] at e
    exact e.symm
  refine wpAny_call (make_map (f := f) I.kIn M.makes M.init (beq_iff_eq.mp M.fn) (codeAny_mono (F.run _ X.stack _ _ ⟨Value.ref (s.heap.objs.size + 1) :: us, []⟩ (Value.ref (s.heap.objs.size + 1) :: (us ++ ds)) _ _ E (hr.make C us [])
    (I2.env0.make C us []) (hb _ (Value.ref (s.heap.objs.size + 1) :: us) I2.kIn hl) r2 hq) fun r s' hq' => ?_))
  cases r with
  | error e => exact hx pins σ _ _ e s' I2 hq'
  | ok fl =>
    cases fl with
    | ret u =>
      obtain ⟨v, H', I3, rv, ev, q3⟩ := I2.after hq'
      subst ev
      exact ⟨rv, ⟨V.ref (s.heap.objs.size + 1), H', I3, rfl, q3⟩⟩
    | next => exact False.elim hq'
    | brk => exact False.elim hq'
    | cont => exact False.elim hq'
theorem pe_make (M : Mk X.K C f) (F : FnOk X.prog X.w X.K X.mg X.base CX k f fd ps sp) (hr : Room (k + 1) X.A) (hg : Gl X x) (hm : X.mg x = some (.ref C)) (hb : Binds X.K fd ps ds) (hd : Vals dvs ds) (hx : Passes CX X E)
    (ha : PA X (e :: es) t) (hdb : (x == ("__debug__" : Str)) = false := by decide) (he : starEach (e :: es) X.env = (false, eval e X.env) :: starEach es X.env := by rfl) (hpl : (backTo pos (starEach es X.env)).any (·.1) = false := by rfl) :
    PE X (.Call (.Name x p) (e :: es) [] pos) (tMake C sp dvs E t) := by
  intro pins s σ H Q I h
  refine wpAny_Call_Name_kw (ld_glob I hg hm ?_ hdb)
  refine PySem.W.callWith_K (h₀ := X.base) I.ok.mod.kin M.kp (thn (ha pos pins s σ H _ I h) fun us s1 ⟨vs, H1, I1, r, q⟩ => ⟨I1.kIn, ?_⟩) he hpl
  exact run_make M F hr hb hd hx I1 r q
theorem pe_make0 (M : Mk X.K C f) (F : FnOk X.prog X.w X.K X.mg X.base CX k f fd ps sp) (hr : Room (k + 1) X.A) (hg : Gl X x) (hm : X.mg x = some (.ref C)) (hb : Binds X.K fd ps ds) (hd : Vals dvs ds) (hx : Passes CX X E)
    (hdb : (x == ("__debug__" : Str)) = false := by decide) : PE X (.Call (.Name x p) [] [] pos) (tMake C sp dvs E tNil) := by
  intro pins s σ H Q I h
  refine wpAny_Call_Name_kw (ld_glob I hg hm ?_ hdb)
  exact PySem.W.callWith_K0 I.kIn M.kp (run_make (us := []) M F hr hb hd hx I .nil h)
end
structure FnScope (N P : List Str) (sc : Scope) : Prop where
  kind : sc.kind = .function
  co : sc.isCoroutine = false
  gen : sc.isGenerator = false
  nd : N.Nodup
  pre : N.take P.length = P
  par : ∀ x ∈ P, sc.names.lookup x = some .local ∨ sc.names.lookup x = some .cell
  nofree : ∀ y ∈ sc.names, y.2 ≠ .free
theorem bindL_out {kindOf : Str → Option NameKind} {x : Str} : ∀ {binds : List (Str × Value)} {m : Str → Option Value}, (∀ v, (x, v) ∉ binds) → bindL kindOf binds m x = m x
  | [], _, _ => rfl
  | (n, v) :: r, m, h => by
    unfold bindL
    rw [bindL_out fun w hw => h w (List.mem_cons_of_mem _ hw)]
    split
    · have : x ≠ n := by rintro rfl; exact h v List.mem_cons_self
      simp [this]
    · rfl
theorem bindC_out {kindOf : Str → Option NameKind} {x : Str} : ∀ {binds : List (Str × Value)} {m : Str → Option Value}, (∀ v, (x, v) ∉ binds) → bindC kindOf binds m x = m x
  | [], _, _ => rfl
  | (n, v) :: r, m, h => by
    unfold bindC
    rw [bindC_out fun w hw => h w (List.mem_cons_of_mem _ hw)]
    split
    · rfl
    · have : x ≠ n := by rintro rfl; exact h v List.mem_cons_self
      simp [this]
theorem bindL_get {kindOf : Str → Option NameKind} {x : Str} {v : Value} : ∀ {P : List Str} {vs : List Value} {i : Nat} {m : Str → Option Value}, P.Nodup → P[i]? = some x → vs[i]? = some v → kindOf x = some .local →
    bindL kindOf (P.zip vs) m x = some v
  | [], _, _, _, _, h, _, _ => by simp at h
  | _ :: _, [], _, _, _, _, h, _ => by simp at h
  | p :: P, w :: vs, 0, m, nd, h1, h2, hk => by
    simp at h1 h2; subst h1; subst h2
    show bindL kindOf ((p, w) :: P.zip vs) m p = _
    unfold bindL
    rw [bindL_out fun v hv => (List.nodup_cons.mp nd).1 (List.of_mem_zip hv).1, if_pos hk]
    simp
  | p :: P, w :: vs, i + 1, m, nd, h1, h2, hk => by
    show bindL kindOf ((p, w) :: P.zip vs) m x = _
    unfold bindL
    exact bindL_get (i := i) (List.nodup_cons.mp nd).2 (by simpa using h1) (by simpa using h2) hk
theorem bindC_get {kindOf : Str → Option NameKind} {x : Str} {v : Value} : ∀ {P : List Str} {vs : List Value} {i : Nat} {m : Str → Option Value}, P.Nodup → P[i]? = some x → vs[i]? = some v → kindOf x ≠ some .local →
    bindC kindOf (P.zip vs) m x = some v
  | [], _, _, _, _, h, _, _ => by simp at h
  | _ :: _, [], _, _, _, _, h, _ => by simp at h
  | p :: P, w :: vs, 0, m, nd, h1, h2, hk => by
    simp at h1 h2; subst h1; subst h2
    show bindC kindOf ((p, w) :: P.zip vs) m p = _
    unfold bindC
    rw [bindC_out fun v hv => (List.nodup_cons.mp nd).1 (List.of_mem_zip hv).1, if_neg hk]
    simp
  | p :: P, w :: vs, i + 1, m, nd, h1, h2, hk => by
    show bindC kindOf ((p, w) :: P.zip vs) m x = _
    unfold bindC
    exact bindC_get (i := i) (List.nodup_cons.mp nd).2 (by simpa using h1) (by simpa using h2) hk
def start (N : List Str) (vs : List V) : St := vs.map some ++ List.replicate (N.length - vs.length) none
def cxOf (CX : CXT) (P : Program) (w : World) (K : PySem.W.Frag) (mg : Str → Option Value) (base : Heap) (N : List Str) (qual : Str) (scope : Scope) (f : Addr) (cd : Value) (A : Around) (outer : List Env) (s : Shared) (H : Hp) (E : XK) : Cx where
  prog := P
  w := w
  K := K
  mg := mg
  base := base
  A := A.deeper (envOfC qual scope s.heap.objs.size f cd)
  N := N
  s_0 := s
  H_0 := H
  env := envOfC qual scope s.heap.objs.size f cd
  outer := outer
  stack := envOfC qual scope s.heap.objs.size f cd :: outer
  ex := []
  calm := true
  fn := fun _ => true
  pn := []
  xe := fun e s' => wpAny (model P w) (A.deeper (envOfC qual scope s.heap.objs.size f cd)) (leaving (envOfC qual scope s.heap.objs.size f cd) e) (fun _ s'' => CX outer H s E e s'') (fun e' s'' => CX outer H s E e' s'') s'
theorem cell_has {sc : Scope} {n : Nat} {x : Str} (h : sc.names.lookup x = some .cell) : ∃ c, (cellsFrom n sc.names []).lookup x = some c := by
  have q := PySem.W.cellsFrom_some sc.names n [] (.inl h)
  exact Option.isSome_iff_exists.mp q
theorem inv_start {CX : CXT} {P : Program} {w : World} {K : PySem.W.Frag} {mg : Str → Option Value} {base : Heap} {N ps : List Str} {qual : Str} {scope : Scope} {f : Addr} {cd : Value} {A : Around} {outer : List Env} {s s1 : Shared} {H : Hp} {E : XK} {us : List Value} {vs : List V}
    (S : FnScope N ps scope) (hd : A.handled = none) (e0 : Env0 P w K mg base A outer s H) (hl : vs.length = ps.length) (r : Vals vs us)
    (x : InCallC s s.heap.objs.size (bindL (envOfC qual scope s.heap.objs.size f cd).kindOf (ps.zip us) fun _ => none) (cellsFrom (s.heap.objs.size + 1) scope.names []) (bindC (envOfC qual scope s.heap.objs.size f cd).kindOf (ps.zip us) fun _ => none) s1) :
    Inv (cxOf CX P w K mg base N qual scope f cd A outer s H E) [] (start N vs) H s1 := by
  have hpl : ps.length ≤ N.length := by have := congrArg List.length S.pre; rw [List.length_take] at this; omega
  obtain ⟨h1, tk, rfl, hk⟩ := x.done
  have noA : ∀ b : Addr, b ∉ (cxOf CX P w K mg base N qual scope f cd A outer s H E).ex := fun b z => absurd (show b ∈ ([] : List Addr) from z) (by simp)
  refine ⟨⟨e0.mod, S.kind, rfl, rfl, Nat.le_refl _, fun y z c h1 h2 => ?_, fun y hy => ?_, fun y c _ h => ?_, fun _ => hd, Around.frames_deeper e0.frames, .inr ⟨rfl, rfl⟩, fun b z => absurd z (noA b), e0.bs, e0.bsz, fun b _ _ => noA b, fun b z => absurd z (noA b), e0.funs, e0.frf⟩,
    rfl, e0.bare, Un.kept hk, ⟨_, x.toInCall.ns, fun i y v h1 h2 h3 => ?_⟩, fun y c h => ⟨_, x.cell y c h⟩, e0.hok.fresh (Nat.le_refl _), fun y c h => ?_, fun p hp => absurd (show p ∈ ([] : List (Addr × Obj)) from hp) (by simp), e0.hok.kept hk, ?_⟩
  · exact name_of_addr x.apart (PySem.mem_of_lookup h1) (PySem.mem_of_lookup h2)
  · have hy : scope.names.lookup y = some .cell ∨ scope.names.lookup y = some .free := hy
    rcases hy with hy | hy
    · exact cell_has hy
    · exact absurd rfl (S.nofree _ (PySem.mem_of_lookup hy))
  · exact Nat.le_of_lt (x.above y c (PySem.mem_of_lookup h))
  · have hi : i < vs.length := by
      unfold start at h2
      by_cases hi : i < vs.length
      · exact hi
      · rw [List.getElem?_append_right (by simpa using hi)] at h2
        rw [List.getElem?_replicate] at h2
        split at h2 <;> cases h2
    have ha : vs[i]? = some v := by
      unfold start at h2
      rw [List.getElem?_append_left (by simpa using hi), List.getElem?_map] at h2
      cases e : vs[i]? with
      | none => rw [e] at h2; cases h2
      | some a => rw [e] at h2; cases h2; rfl
    obtain ⟨u, hu, rv⟩ := r.get ha
    have hp : ps[i]? = some y := by
      rw [← S.pre, List.getElem?_take_of_lt (by omega)]; exact h1
    have ndP : ps.Nodup := by rw [← S.pre]; exact S.nd.sublist (List.take_sublist _ _)
    refine ⟨u, rv, ?_⟩
    rcases S.par y (List.mem_of_getElem? hp) with k | k
    · exact .inl ⟨k, bindL_get ndP hp hu k⟩
    · obtain ⟨c, e⟩ := cell_has (n := s.heap.objs.size + 1) k
      refine .inr ⟨.inl k, c, e, ?_⟩
      have q := x.cell y c e
      rw [bindC_get ndP hp hu (by show scope.names.lookup y ≠ _; rw [k]; decide)] at q
      exact q
  · exact e0.hok.fresh (Nat.le_of_lt (x.above y c (PySem.mem_of_lookup h)))
  · unfold start
    show _ = N.length
    rw [List.length_append, List.length_map, List.length_replicate]
    omega
theorem fn_of {CX : CXT} {P : Program} {w : World} {K : PySem.W.Frag} {mg : Str → Option Value} {base : Heap} {k : Nat} {f : Addr} {name qual : Str} {params : Arguments} {body : List Stmt} {scope : Scope} {dV kV doc pm cdv ct oc : Value} {an od : Option Addr}
    {osl : Array (Option Value)} {N ps : List Str} {sp : Sp} (lk : K.lookup f = some ⟨oc, od, .func (PySem.W.fnOf name qual params body scope dV kV doc pm an cdv ct), osl⟩) (hcd : PySem.W.codeIn K cdv qual = true) (S : FnScope N ps scope)
    (len : ∀ vs H Q E, sp vs H Q E → vs.length = ps.length)
    (hbody : ∀ (A : Around) (outer : List Env) (s : Shared) (H : Hp) (vs : List V) (Q : VK) (E : XK), Room k (A.deeper (envOfC qual scope s.heap.objs.size f cdv)) → sp vs H Q E →
      ∃ t, PSs (cxOf CX P w K mg base N qual scope f cdv A outer s H E) body t ∧ t { nx := fun _ H' => Q .non H', rt := Q } (start N vs) H) :
    FnOk P w K mg base CX (k + 1) f (PySem.W.fnOf name qual params body scope dV kV doc pm an cdv ct) ps sp := by
  refine ⟨len, fun A outer s H args us vs Q E hr e0 hb r hsp => ?_⟩
  have hl := len _ _ _ _ hsp
  have KX : K.In s.heap := e0.mod.kin.keeps fun b o e => (e0.bs b o e).1
  have lim : s.heap.NoLimit := e0.mod.nolimit.keeps fun b o e => (e0.bs b o e).1
  have hkind : ∀ y ∈ ps.zip us, scope.names.lookup y.1 = some .local ∨ (scope.names.lookup y.1 = some .cell ∧ ((cellsFrom (s.heap.objs.size + 1) scope.names []).lookup y.1).isSome = true) := fun ⟨n, v⟩ hy => by
    rcases S.par n (List.of_mem_zip hy).1 with q | q
    · exact .inl q
    · exact .inr ⟨q, PySem.W.cellsFrom_some _ _ _ (.inl q)⟩
  refine codeAny_call_function hr.depth (KX _ _ lk) rfl S.co S.gen rfl (PySem.W.codeRec_of KX hcd) (hb _ _ _ _ ?_)
  refine wpAny_newFunctionEnv_cells S.kind hkind fun env he s1 x => ?_
  subst he
  refine ⟨lim.keeps x.toInCall.keep, codeAny_func ?_⟩
  obtain ⟨t, ht, hq⟩ := hbody A outer s H vs Q E (hr.deeper _) hsp
  have I : Inv (cxOf CX P w K mg base N qual scope f cdv A outer s H E) [] (start N vs) H s1 := inv_start S hr.hd e0 hl r x
  refine wpAny_mono (ht [] s1 (start N vs) H _ I hq) (fun fl s' hs => ?_) fun e s' hs => hs
  have fin : ∀ {σ' : St} {H' : Hp} {v : V} {u : Value}, Inv (cxOf CX P w K mg base N qual scope f cdv A outer s H E) [] σ' H' s' → RelV v u → Q v H' → CE outer P w H s Q u s' :=
    fun {σ' H' v u} J rv q => ⟨v, H', J.os, J.bare, J.base, J.hok, rv, q⟩
  cases fl with
  | ret u =>
    obtain ⟨v, σ', H', J, rv, q⟩ := hs
    exact fin J rv q
  | next =>
    obtain ⟨σ', H', J, q⟩ := hs
    exact fin (v := V.non) (u := Value.none) J rfl q
  | brk =>
    obtain ⟨_, _, _, q⟩ := hs
    exact False.elim q
  | cont =>
    obtain ⟨_, _, _, q⟩ := hs
    exact False.elim q
end L2
namespace L2
open PySem PySem.Spec PyProof.Rows
section
variable {X : Cx} {x : Str} {p pos : Pos} {e : Expr} {es : List Expr} {t : TA} {id T : String} {r : List V → Hp → VK → Prop}
def tCB (r : List V → Hp → VK → Prop) (t : TA) : TE := fun σ H Q => t σ H fun vs H1 => r vs H1 Q
theorem pe_callB (hc : CallR X (.builtin id) r) (hg : Gl X x) (hm : X.mg x = none) (hv : bootBuiltins x = some (.builtin id)) (ha : PA X (e :: es) t) (hn : x ≠ "__name__" := by decide) (hdb : (x == ("__debug__" : Str)) = false := by decide)
    (he : starEach (e :: es) X.env = (false, eval e X.env) :: starEach es X.env := by rfl) (hpl : (backTo pos (starEach es X.env)).any (·.1) = false := by rfl) : PE X (.Call (.Name x p) (e :: es) [] pos) (tCB r t) := by
  intro pins s σ H Q I h
  refine wpAny_Call_Name_kw (ld_blt I hg hm hv ?_ hn hdb)
  exact PyProof.Rows.callWith_builtin1 (thn (ha pos pins s σ H _ I h) fun us s1 ⟨vs, H1, I1, r1, q1⟩ => hc pins s1 σ H1 vs us Q I1 r1 q1) he hpl
theorem pe_callTy (hc : CallR X (.type T) r) (hg : Gl X x) (hm : X.mg x = none) (hv : bootBuiltins x = some (.type T)) (ha : PA X (e :: es) t) (hn : x ≠ "__name__" := by decide) (hdb : (x == ("__debug__" : Str)) = false := by decide)
    (he : starEach (e :: es) X.env = (false, eval e X.env) :: starEach es X.env := by rfl) (hpl : (backTo pos (starEach es X.env)).any (·.1) = false := by rfl) : PE X (.Call (.Name x p) (e :: es) [] pos) (tCB r t) := by
  intro pins s σ H Q I h
  refine wpAny_Call_Name_kw (ld_blt I hg hm hv ?_ hn hdb)
  exact PyProof.Rows.callWith_type1 (thn (ha pos pins s σ H _ I h) fun us s1 ⟨vs, H1, I1, r1, q1⟩ => hc pins s1 σ H1 vs us Q I1 r1 q1) he hpl
end
end L2
namespace HT
open PySem PyProof.Rows
section
open PySem.SeqAt
open PySem.AutoSeq1 (wpAny_loadPart')
open PySem.MeetsSeq PySem.MeetsSeq2 PySem.MeetsSeq3
end
section
variable {prog : Program} {w : World} {A : Around} {E : Value → Shared → Prop} {s : Shared}
def sIx (n d : Nat) : Option Int → Nat
  | none => d
  | some v => if v < 0 then (v + (n : Int)).toNat else min v.toNat n
theorem sIx_none (n d : Nat) : sIx n d none = d := rfl
theorem sIx_nat (n d k : Nat) : sIx n d (some (k : Int)) = min k n := by
  show (if (k : Int) < 0 then ((k : Int) + (n : Int)).toNat else min (k : Int).toNat n) = min k n
  rw [if_neg (by omega), Int.toNat_natCast]
end
end HT
namespace L2
open PySem PySem.Spec PyProof.Rows
abbrev TO := St → Hp → (Option Int → Hp → Prop) → Prop
def PO (X : Cx) (e : Option Expr) (t : TO) : Prop :=
  ∀ (pins : List (Addr × Obj)) (s : Shared) (σ : St) (H : Hp) (Q : Option Int → Hp → Prop), Inv X pins σ H s → t σ H Q →
    wpAny (model X.prog X.w) X.A (evalPart e X.env) (fun u s' => ∃ o H', Inv X pins σ H' s' ∧ IsPart u o ∧ Q o H') X.xe s
def tNoPart : TO := fun _ H Q => Q none H
def tPart (t : TE) : TO := fun σ H Q => t σ H fun x H1 => ∃ i, x = .int i ∧ Q (some i) H1
section
variable {X : Cx} {e : Expr} {te : TE} {lo hi : Option Expr} {tl th : TO} {pos p2 : Pos}
theorem po_none : PO X none tNoPart := by
  intro pins s σ H Q I h
  rw [evalPart_none]
  exact wpAny_pure ⟨none, H, I, .none, h⟩
theorem po_some (h : PE X e te) : PO X (some e) (tPart te) := by
  intro pins s σ H Q I hw
  rw [evalPart_some]
  refine thn (h pins s σ H _ I hw) fun u s1 ⟨x, H1, I1, r1, q1⟩ => ?_
  obtain ⟨i, rfl, q⟩ := q1
  obtain ⟨t, rfl⟩ := r1
  exact ⟨some i, H1, I1, .int i t, q⟩
def SlR (X : Cx) (r : V → Option Int → Option Int → Hp → VK → Prop) : Prop :=
  ∀ (pins : List (Addr × Obj)) (s : Shared) (σ : St) (H : Hp) (x : V) (v vl vu : Value) (lo hi : Option Int) (sl : Addr) (Q : VK), Inv X pins σ H s → RelV x v → s.heap.IsSliceOf sl vl vu .none → IsPart vl lo → IsPart vu hi → r x lo hi H Q →
    ∃ T id, typeLookup (.type T) "__getitem__" = pure (some (.builtin id)) ∧ s.TypeIs v T ∧ wpAny (model X.prog X.w) X.A (getItem v (.ref sl)) (EP X pins σ Q) X.xe s
theorem SlR.or {r r' : V → Option Int → Option Int → Hp → VK → Prop} (h : SlR X r) (h' : SlR X r') : SlR X (fun x lo hi H Q => r x lo hi H Q ∨ r' x lo hi H Q) := by
  intro pins s σ H x v vl vu lo hi sl Q I rx hs pl pu q
  rcases q with q | q
  · exact h pins s σ H x v vl vu lo hi sl Q I rx hs pl pu q
  · exact h' pins s σ H x v vl vu lo hi sl Q I rx hs pl pu q
def tSl (r : V → Option Int → Option Int → Hp → VK → Prop) (te : TE) (tl th : TO) : TE := fun σ H Q => te σ H fun x H1 => tl σ H1 fun l H2 => th σ H2 fun u H3 => r x l u H3 Q
theorem pe_slice {r : V → Option Int → Option Int → Hp → VK → Prop} (hr : SlR X r) (he : PE X e te) (hl : PO X lo tl) (hu : PO X hi th) : PE X (.Subscript e (.Slice lo hi none p2) pos) (tSl r te tl th) := by
  intro pins s σ H Q I h
  refine Subscript_ (thn (he pins s σ H _ I h) fun v s1 ⟨x, H1, I1, r1, q1⟩ => ?_)
  refine wpAny_Slice (thn (hl pins s1 σ H1 _ I1 q1) fun vl s2 ⟨l, H2, I2, pl, q2⟩ => thn (hu pins s2 σ H2 _ I2 q2) fun vu s3 ⟨u, H3, I3, pu, q3⟩ => ?_)
  rw [evalPart_none]
  refine wpAny_pure ?_
  have I4 : Inv X pins σ H3 { s3 with heap := s3.heap.push { cls := .type "slice", data := .fields #[vl, vu, .none] } } := I3.kept (t' := s3.toks) fun b ob q => Heap.get?_push_of_some _ q
  obtain ⟨T, id, hT, ht, hg⟩ := hr pins { s3 with heap := s3.heap.push { cls := .type "slice", data := .fields #[vl, vu, .none] } } σ H3 x v vl vu l u s3.heap.objs.size Q I4 r1 (Heap.IsSliceOf.new ..) pl pu q3
  show wpAny (model X.prog X.w) X.A (subscriptTail e (.Slice lo hi none p2) v (.ref s3.heap.objs.size)) (EP X pins σ Q) X.xe { s3 with heap := s3.heap.push { cls := .type "slice", data := .fields #[vl, vu, .none] } }
  exact tail_any (ops := [.ref s3.heap.objs.size, v]) ht hT hg (by with_unfolding_all rfl)
def cutV (xs : List V) (lo hi : Option Int) : List V := (xs.drop (HT.sIx xs.length 0 lo)).take (HT.sIx xs.length xs.length hi - HT.sIx xs.length 0 lo)
theorem cutV_length (xs : List V) (lo hi : Option Int) : (cutV xs lo hi).length ≤ xs.length := by
  unfold cutV
  rw [List.length_take, List.length_drop]
  omega
end
end L2
namespace L2
open PySem PySem.Spec PyProof.Rows
def ixN (n : Nat) (i : Int) : Option Nat := if 0 ≤ i then (if i < n then some i.toNat else none) else if -(n : Int) ≤ i then some (i + n).toNat else none
def atI {α : Type} (xs : List α) (i : Int) : Option α := (ixN xs.length i).bind fun j => xs[j]?
theorem ixN_seq {n : Nat} {i : Int} {j : Nat} (h : ixN n i = some j) : seqIndex? i n = some j ∧ j < n ∧ -(n : Int) ≤ i ∧ i < n := by
  unfold ixN at h
  by_cases h0 : 0 ≤ i
  · rw [if_pos h0] at h
    by_cases h1 : i < n
    · rw [if_pos h1] at h
      have e : i.toNat = j := Option.some.inj h
      exact ⟨by rw [seqIndex_of h0 h1, e], by omega, by omega, h1⟩
    · rw [if_neg h1] at h; cases h
  · rw [if_neg h0] at h
    by_cases h1 : -(n : Int) ≤ i
    · rw [if_pos h1] at h
      have e : (i + n).toNat = j := Option.some.inj h
      exact ⟨by rw [seqIndex_neg (by omega) h1, e], by omega, h1, by omega⟩
    · rw [if_neg h1] at h; cases h
theorem atI_get {α : Type} {xs : List α} {i : Int} {v : α} (h : atI xs i = some v) : ∃ j, seqIndex? i xs.length = some j ∧ xs[j]? = some v ∧ j < xs.length ∧ -(xs.length : Int) ≤ i ∧ i < xs.length := by
  unfold atI at h
  cases e : ixN xs.length i with
  | none => rw [e] at h; cases h
  | some j =>
    rw [e] at h
    obtain ⟨h1, h2, h3, h4⟩ := ixN_seq e
    exact ⟨j, h1, h, h2, h3, h4⟩
theorem atI_nat {α : Type} {xs : List α} {j : Nat} {v : α} (h : xs[j]? = some v) : atI xs (j : Int) = some v := by
  have hj : j < xs.length := (List.getElem?_eq_some_iff.mp h).1
  have e : ixN xs.length (j : Int) = some j := by
    unfold ixN
    rw [if_pos (by omega), if_pos (by omega)]; simp
  unfold atI; rw [e]; exact h
def PlainIx (b : Expr) : Prop := ∀ o i, subscripted b false o i = operate [o, i] (getItem o i)
def IxR (X : Cx) (r : R2) : Prop :=
  ∀ (value slice : Expr) (pins : List (Addr × Obj)) (s : Shared) (σ : St) (H : Hp) (x y : V) (v u : Value) (Q : VK), Inv X pins σ H s → RelV x v → RelV y u → r x y H Q →
    subscripted slice false v u = operate [v, u] (getItem v u) → wpAny (model X.prog X.w) X.A (subscriptTail value slice v u) (EP X pins σ Q) X.xe s
def MtR (X : Cx) (id : String) (r : V → List V → Hp → VK → Prop) : Prop :=
  ∀ (pins : List (Addr × Obj)) (s : Shared) (σ : St) (H : Hp) (x : V) (xs : List V) (v : Value) (us : List Value) (Q : VK), Inv X pins σ H s → RelV x v → Vals xs us → r x xs H Q →
    wpAny (model X.prog X.w) X.A (call (.builtin id) (v :: us)) (EP X pins σ Q) X.xe s
section
variable {X : Cx} {a b : Expr} {ta tb : TE} {pos : Pos}
theorem IxR.or {r r' : R2} (h : IxR X r) (h' : IxR X r') : IxR X (fun x y H Q => r x y H Q ∨ r' x y H Q) := by
  intro value slice pins s σ H x y v u Q I rx ry q hs
  rcases q with q | q
  · exact h value slice pins s σ H x y v u Q I rx ry q hs
  · exact h' value slice pins s σ H x y v u Q I rx ry q hs
theorem MtR.or {id : String} {r r' : V → List V → Hp → VK → Prop} (h : MtR X id r) (h' : MtR X id r') : MtR X id (fun x xs H Q => r x xs H Q ∨ r' x xs H Q) := by
  intro pins s σ H x xs v us Q I rx rs q
  rcases q with q | q
  · exact h pins s σ H x xs v us Q I rx rs q
  · exact h' pins s σ H x xs v us Q I rx rs q
theorem pe_ix {r : R2} (hr : IxR X r) (ha : PE X a ta) (hb : PE X b tb) (hs : PlainIx b) : PE X (.Subscript a b pos) (tOp r ta tb) := by
  intro pins s σ H Q I h
  exact Subscript_ (binT ha hb I h fun v u s2 x y H2 I2 rx ry q => hr a b pins s2 σ H2 x y v u Q I2 rx ry q (hs _ _))
def rIxL (K : PySem.W.Frag) : R2 := fun x y H Q => ∃ p xs i v, x = .ref p ∧ y = .int i ∧ SqL K H p xs ∧ atI xs i = some v ∧ Q v H
def rIxT (K : PySem.W.Frag) : R2 := fun x y H Q => ∃ p xs i v, x = .ref p ∧ y = .int i ∧ SqT K H p xs ∧ atI xs i = some v ∧ Q v H
theorem ix_list : IxR X (rIxL X.K) := by
  intro value slice pins s σ H x y v u Q I rx ry h hs
  obtain ⟨p, xs, i, z, rfl, rfl, hq, he, q⟩ := h
  cases rx
  obtain ⟨t, rfl⟩ := ry
  obtain ⟨its, r, pl, hz⟩ := I.list hq
  obtain ⟨j, h1, h2, h3, h4, h5⟩ := atI_get he
  obtain ⟨w, ew, rw'⟩ := r.get h2
  have hl := r.length
  have hn := line63
  have fin : EP X pins σ Q w s := ⟨z, H, I, rw', q⟩
  by_cases h0 : 0 ≤ i
  · have hj : i.toNat = j := by
      rw [seqIndex_of h0 h5] at h1
      exact Option.some.inj h1
    exact item_listR pl.isList h0 (by omega) (by rw [hj]; simpa using ew) fin hs
  · have hj : (i + (its.toArray.size : Int)).toNat = j := by
      rw [seqIndex_neg (by omega) h4] at h1
      rw [List.size_toArray, ← hl]
      exact Option.some.inj h1
    exact subscriptTail_builtinR (x := w) pl.isList.typeIs slot_list_getitem.lookup
      (wpAny_getItem_list_neg (Q := fun r s' => r = w ∧ EP X pins σ Q r s') pl.isList (by omega) (by rw [List.size_toArray] <;> omega) (by omega) (by rw [hj]; simpa using ew) ⟨rfl, fin⟩) hs
theorem ix_tup : IxR X (rIxT X.K) := by
  intro value slice pins s σ H x y v u Q I rx ry h hs
  obtain ⟨p, xs, i, z, rfl, rfl, hq, he, q⟩ := h
  cases rx
  obtain ⟨t, rfl⟩ := ry
  obtain ⟨its, r, pl, hz⟩ := I.tuple hq
  obtain ⟨j, h1, h2, h3, h4, h5⟩ := atI_get he
  obtain ⟨w, ew, rw'⟩ := r.get h2
  have hl := r.length
  have hn := line63
  have fin : EP X pins σ Q w s := ⟨z, H, I, rw', q⟩
  exact subscriptTail_builtinR (x := w) pl.typeIs slot_tuple_getitem.lookup
    (getItem_tuple (j := j) (Q := fun r s' => r = w ∧ EP X pins σ Q r s') pl (by omega) (by omega) (by rw [List.size_toArray, ← hl]; exact h1) (by simpa using ew) ⟨rfl, fin⟩) hs
theorem Inv.lst {pins : List (Addr × Obj)} {σ : St} {H : Hp} {s : Shared} {p : Addr} {xs : List V} (I : Inv X pins σ H s) (h : H p = some (.lst xs)) :
    ∃ (its : List Value) (n : Nat), Vals xs its ∧ s.heap.get? p = some { cls := .type "list", data := .seq its.toArray n } ∧ xs.length ≤ sizeLine := by
  obtain ⟨z, its, n, r, e⟩ := I.hok p _ h
  exact ⟨its, n, r, e, z⟩
theorem slice_bounds (lo hi : Option Int) (n : Nat) : (sliceBounds lo hi none n).1 = ((HT.sIx n 0 lo : Nat) : Int) ∧ (sliceBounds lo hi none n).2.1 = ((HT.sIx n n hi : Nat) : Int) ∧ (sliceBounds lo hi none n).2.2 = 1 := by
  refine ⟨?_, ?_, rfl⟩
  · cases lo with
    | none => simp [sliceBounds, HT.sIx]
    | some i =>
      simp only [sliceBounds, HT.sIx, Option.getD_none, show (1 : Int) > 0 by decide, if_true]
      by_cases h : i < 0
      · simp only [h, if_true] <;> omega
      · simp only [h, if_false] <;> omega
  · cases hi with
    | none => simp [sliceBounds, HT.sIx]
    | some i =>
      simp only [sliceBounds, HT.sIx, Option.getD_none, show (1 : Int) > 0 by decide, if_true]
      by_cases h : i < 0
      · simp only [h, if_true] <;> omega
      · simp only [h, if_false] <;> omega
theorem slicePick_cut (its : List Value) (lo hi : Option Int) : slicePick its.toArray lo hi none = ((its.drop (HT.sIx its.length 0 lo)).take (HT.sIx its.length its.length hi - HT.sIx its.length 0 lo)).toArray := by
  obtain ⟨h1, h2, h3⟩ := slice_bounds lo hi its.toArray.size
  unfold slicePick
  rw [h1, h2, h3]
  simp only [sliceRange_one, pick_run, List.size_toArray] <;> rfl
def rSlL (K : PySem.W.Frag) : V → Option Int → Option Int → Hp → VK → Prop := fun x lo hi H Q => ∃ a xs, x = .ref a ∧ SqL K H a xs ∧ ∀ p, H p = none → Q (.ref p) (upd H p (.lst (cutV xs lo hi)))
theorem sl_list : SlR X (rSlL X.K) := by
  intro pins s σ H x v vl vu lo hi sl Q I rx hs pl pu h
  obtain ⟨a, xs, rfl, hx, q⟩ := h
  cases rx
  obtain ⟨its, r, ht, hz⟩ := I.list hx
  have hlen := r.length
  refine ⟨"list", _, slot_list_getitem.lookup, ht.isList.typeIs, ?_⟩
  refine wpAny_getItem_list_slice ht.isList hs pl pu .none (by simp) ?_ (by rw [List.size_toArray] <;> omega)
  rw [slicePick_cut, ← hlen]
  refine ⟨.ref s.heap.objs.size, _, I.laid (t' := s.toks) (o := .lst (cutV xs lo hi)) (fun b ob q => Heap.get?_push_of_some _ q) (Nat.le_refl _) ?_, rfl, q _ (I.hok.fresh (Nat.le_refl _))⟩
  exact ⟨Nat.le_trans (cutV_length xs lo hi) hz, _, 0, (r.drop (HT.sIx xs.length 0 lo)).take (HT.sIx xs.length xs.length hi - HT.sIx xs.length 0 lo), Heap.get?_push_size _ rfl⟩
def flatV : V → Bool
  | .non => true
  | .bl _ => true
  | .int _ => true
  | .str _ => true
  | _ => false
def eqV : V → V → Bool
  | .non, .non => true
  | .bl a, .bl b => a == b
  | .bl a, .int b => (if a then 1 else 0) == b
  | .int a, .bl b => a == (if b then 1 else 0)
  | .int a, .int b => a == b
  | .str a, .str b => a == b
  | _, _ => false
theorem eqAt_V {A : Around} {s : Shared} {y x : V} {u v : Value} (ry : RelV y u) (rx : RelV x v) (fy : flatV y = true) (fx : flatV x = true) : SeqAt.EqAt A s u v (eqV y x) := by
  cases y with
  | non =>
    cases ry
    cases x with
    | non => cases rx; exact SeqAt.EqAt.same _
    | bl b => cases rx; exact SeqAt.EqAt.none_bool b
    | int b => obtain ⟨t, rfl⟩ := rx; exact SeqAt.EqAt.none_int b t
    | str b => obtain ⟨t, rfl⟩ := rx; exact SeqAt.EqAt.none_str b t
    | _ => exact absurd (show false = true from fx) Bool.false_ne_true
  | bl a =>
    cases ry
    cases x with
    | non => cases rx; exact SeqAt.EqAt.bool_none a
    | bl b => cases rx; exact SeqAt.EqAt.bool_bool a b
    | int b => obtain ⟨t, rfl⟩ := rx; exact SeqAt.EqAt.bool_int a b t
    | str b => obtain ⟨t, rfl⟩ := rx; exact SeqAt.EqAt.bool_str a b t
    | _ => exact absurd (show false = true from fx) Bool.false_ne_true
  | int a =>
    obtain ⟨t', rfl⟩ := ry
    cases x with
    | non => cases rx; exact SeqAt.EqAt.int_none a t'
    | bl b => cases rx; exact SeqAt.EqAt.int_bool a t' b
    | int b => obtain ⟨t, rfl⟩ := rx; exact SeqAt.EqAt.int_int a t' b t
    | str b => obtain ⟨t, rfl⟩ := rx; exact SeqAt.EqAt.int_str a t' b t
    | _ => exact absurd (show false = true from fx) Bool.false_ne_true
  | str a =>
    obtain ⟨t', rfl⟩ := ry
    cases x with
    | non => cases rx; exact SeqAt.EqAt.str_none a t'
    | bl b => cases rx; exact SeqAt.EqAt.str_bool a t' b
    | int b => obtain ⟨t, rfl⟩ := rx; exact SeqAt.EqAt.str_int a t' b t
    | str b => obtain ⟨t, rfl⟩ := rx; exact SeqAt.EqAt.str_str a t' b t
    | _ => exact absurd (show false = true from fx) Bool.false_ne_true
  | _ => exact absurd (show false = true from fy) Bool.false_ne_true
def eqU (x : V) (u : Value) : Bool := match u with
  | .none => eqV .non x
  | .bool b => eqV (.bl b) x
  | .int i _ => eqV (.int i) x
  | .str z _ => eqV (.str z) x
  | _ => false
theorem eqU_of {x y : V} {u : Value} (r : RelV y u) (f : flatV y = true) : eqU x u = eqV y x := by
  cases y with
  | non => cases r; rfl
  | bl b => cases r; rfl
  | int i => obtain ⟨t, rfl⟩ := r; rfl
  | str z => obtain ⟨t, rfl⟩ := r; rfl
  | _ => exact absurd (show false = true from f) Bool.false_ne_true
theorem any_eqU {x : V} : ∀ {xs : List V} {us : List Value}, Vals xs us → xs.all flatV = true → us.any (eqU x) = xs.any fun y => eqV y x
  | _, _, .nil, _ => rfl
  | y :: xs, u :: us, .cons r t, f => by
    rw [List.all_cons, Bool.and_eq_true] at f
    rw [List.any_cons, List.any_cons, eqU_of r f.1, any_eqU t f.2]
theorem mem_eqAt {A : Around} {s : Shared} {x : V} {v : Value} (rx : RelV x v) (fx : flatV x = true) : ∀ {xs : List V} {us : List Value}, Vals xs us → xs.all flatV = true → ∀ u ∈ us, SeqAt.EqAt A s u v (eqU x u)
  | _, _, .nil, _ => fun u hu => by cases hu
  | y :: xs, u :: us, .cons r t, f => fun u' hu => by
    rw [List.all_cons, Bool.and_eq_true] at f
    rcases List.mem_cons.mp hu with rfl | hu
    · rw [eqU_of r f.1]; exact eqAt_V r rx f.1 fx
    · exact mem_eqAt rx fx t f.2 u' hu
def inV (x : V) (xs : List V) : Bool := xs.any fun y => eqV y x
def rIn (K : PySem.W.Frag) (neg : Bool) : R2 := fun x y H Q => ∃ p xs, y = .ref p ∧ (SqL K H p xs ∨ SqT K H p xs) ∧ flatV x = true ∧ xs.all flatV = true ∧ Q (.bl (if neg then !inV x xs else inV x xs)) H
theorem op_in_seq : OpR X (compareOp .In) (rIn X.K false) := by
  intro pins s σ H x y v u Q I rx ry h
  obtain ⟨p, xs, rfl, hq, fx, fs, q⟩ := h
  cases ry
  rcases hq with hq | hq
  · obtain ⟨its, r, pl, hz⟩ := I.list hq
    refine SeqAt.in_listAt (eqU x) pl.isList (fun w hw => mem_eqAt rx fx r fs w (by simpa using hw)) ⟨.bl _, H, I, rfl, ?_⟩
    rw [show its.toArray.any (eqU x) = its.any (eqU x) by simp, any_eqU r fs]
    exact q
  · obtain ⟨its, r, pl, hz⟩ := I.tuple hq
    refine SeqAt.in_tupleAt (eqU x) pl (fun w hw => mem_eqAt rx fx r fs w (by simpa using hw)) ⟨.bl _, H, I, rfl, ?_⟩
    rw [show its.toArray.any (eqU x) = its.any (eqU x) by simp, any_eqU r fs]
    exact q
theorem call_len_seq : CallR X (.builtin "len") (fun xs H Q => ∃ p ys, xs = [.ref p] ∧ (SqL X.K H p ys ∨ SqT X.K H p ys) ∧ Q (.int ys.length) H) := by
  intro pins s σ H xs us Q I r h
  obtain ⟨p, ys, rfl, hq, q⟩ := h
  obtain ⟨u, rfl, rx⟩ := vals1 r
  cases rx
  have hn := line63
  rcases hq with hq | hq
  · obtain ⟨its, r', pl, hz⟩ := I.list hq
    have hlen := r'.length
    exact Calls.call_len_list pl.isList (by simp only [List.size_toArray] <;> omega) ⟨.int ys.length, H, I.tok _, ⟨s.toks + 1, by rw [List.size_toArray, hlen]⟩, q⟩
  · obtain ⟨its, r', pl, hz⟩ := I.tuple hq
    have hlen := r'.length
    exact len_tuple pl (by simp only [List.size_toArray] <;> omega) ⟨.int ys.length, H, I.tok _, ⟨s.toks + 1, by rw [List.size_toArray, hlen]⟩, q⟩
theorem CallR.or {f : Value} {r r' : List V → Hp → VK → Prop} (h : CallR X f r) (h' : CallR X f r') : CallR X f (fun xs H Q => r xs H Q ∨ r' xs H Q) := by
  intro pins s σ H xs us Q I rs q
  rcases q with q | q
  · exact h pins s σ H xs us Q I rs q
  · exact h' pins s σ H xs us Q I rs q
theorem call_list_of : CallR X (.type "list") (fun xs H Q => ∃ p ys, xs = [.ref p] ∧ (SqL X.K H p ys ∨ SqT X.K H p ys) ∧ ∀ l, H l = none → Q (.ref l) (upd H l (.lst ys))) := by
  intro pins s σ H xs us Q I r h
  obtain ⟨p, ys, rfl, hq, q⟩ := h
  obtain ⟨u, rfl, rx⟩ := vals1 r
  cases rx
  have fin : ∀ (its : List Value), Vals ys its → ys.length ≤ sizeLine → ∀ (h' : Heap) (c' : Nat), (∀ b o', s.heap.get? b = some o' → h'.get? b = some o') →
      h'.get? s.heap.objs.size = some { cls := .type "list", dict := none, data := .seq its.toArray c', slots := #[] } → EP X pins σ Q (.ref s.heap.objs.size) { s with heap := h' } := fun its r' hz h' c' kp e =>
    ⟨.ref s.heap.objs.size, _, I.laid (t' := s.toks) kp (Nat.le_refl _) (show ObjOk X.prog X.w _ h' _ (.lst ys) from ⟨hz, its, c', r', e⟩), rfl, q _ (I.hok.fresh (Nat.le_refl _))⟩
  rcases hq with hq | hq
  · obtain ⟨its, r', pl, hz⟩ := I.list hq
    have hlen := r'.length
    obtain ⟨o, ho, hc, n, hd⟩ := pl.isList
    exact call_list_seq p (.inl rfl) ho hc hd (fun h' c' kp e => fin its r' hz h' c' kp e) (by simp only [List.size_toArray] <;> omega)
  · obtain ⟨its, r', pl, hz⟩ := I.tuple hq
    have hlen := r'.length
    obtain ⟨o, ho, hc, n, hd⟩ := pl
    exact call_list_seq p (.inr rfl) ho hc hd (fun h' c' kp e => fin its r' hz h' c' kp e) (by simp only [List.size_toArray] <;> omega)
def tyV (K : PySem.W.Frag) (T : String) (x : V) (H : Hp) : Prop := match x with
  | .str _ => T = "str"
  | .int _ => T = "int"
  | .ref p => (T = "list" ∧ ∃ xs, SqL K H p xs) ∨ (T = "tuple" ∧ ∃ o, K.lookup p = some o ∧ o.cls = .type "tuple" ∧ o.dict = none) ∨
      (T = "dict" ∧ ((∃ kvs, H p = some (.dK kvs)) ∨ ∃ kvs, H p = some (.dT kvs))) ∨ (T = "set" ∧ ∃ S n, H p = some (.set S n))
  | _ => False
theorem tyV_is {pins : List (Addr × Obj)} {σ : St} {H : Hp} {s : Shared} {T : String} {x : V} {v : Value} (I : Inv X pins σ H s) (r : RelV x v) (ty : tyV X.K T x H) :
    s.TypeIs v T ∧ ∀ a, v = .ref a → ∃ ob, s.heap.get? a = some ob ∧ ob.dict = none := by
  cases x with
  | str z =>
    obtain ⟨t, rfl⟩ := r
    cases (show T = "str" from ty)
    exact ⟨typeIs_str s z t, fun _ e => nomatch e⟩
  | int i =>
    obtain ⟨t, rfl⟩ := r
    cases (show T = "int" from ty)
    exact ⟨typeIs_int s i t, fun _ e => nomatch e⟩
  | ref p =>
    cases r
    rcases ty with ⟨rfl, xs, hq⟩ | ⟨rfl, o, hk, hc, hd⟩ | ⟨rfl, hk⟩ | ⟨rfl, S, n, hk⟩
    · obtain ⟨its, _, pl, _⟩ := I.list hq
      refine ⟨pl.isList.typeIs, fun a e => ?_⟩
      cases e
      obtain ⟨o, n, e, c, hd, _⟩ := pl
      exact ⟨o, e, hd⟩
    · refine ⟨⟨o, I.kIn p o hk, hc⟩, fun a e => ?_⟩
      cases e
      exact ⟨o, I.kIn _ o hk, hd⟩
    · have z : ∃ o, s.heap.get? p = some o ∧ o.ExactDict := by
        rcases hk with ⟨kvs, hk⟩ | ⟨kvs, hk⟩
        · obtain ⟨_, _, _, _, o, _, _, e, ex, _⟩ := I.hok p _ hk
          exact ⟨o, e, ex⟩
        · obtain ⟨_, _, _, _, o, _, _, e, ex, _⟩ := I.hok p _ hk
          exact ⟨o, e, ex⟩
      obtain ⟨o, e, ex⟩ := z
      refine ⟨⟨o, e, ex.1⟩, fun a e2 => ?_⟩
      cases e2
      exact ⟨o, e, ex.2.1⟩
    · obtain ⟨o, _, _, _, e, ex, _⟩ := I.hok p _ hk
      refine ⟨⟨o, e, ex.1⟩, fun a e2 => ?_⟩
      cases e2
      exact ⟨o, e, ex.2.1⟩
  | _ => exact False.elim ty
def tBM (K : PySem.W.Frag) (T : String) (r : V → List V → Hp → VK → Prop) (to : TE) (t : TA) : TE := fun σ H Q => to σ H fun x H1 => tyV K T x H1 ∧ t σ H1 fun xs H2 => r x xs H2 Q
variable {o e : Expr} {es : List Expr} {to : TE} {t : TA} {name : Str} {apos cpos : Pos} {T id : String} {r : V → List V → Hp → VK → Prop}
theorem pe_bm (pa : PlainAttrs T) (slot : Slot T name id) (hty : typeOf (.builtin id) = pure (.type "method_descriptor")) (hm : MtR X id r) (ho : PE X o to) (ha : PA X (e :: es) t)
    (hbase : attributeBase o name X.env (eval o X.env) = eval o X.env := by rfl)
    (hfew : ((backTo cpos (starEach (e :: es) X.env)).all (fun x => !x.1) && (backToKw cpos (keywordEach [] X.env)).all (fun x => x.1.isSome)
      && decide ((e :: es).length + ([] : List Keyword).length + (if ([] : List Keyword).isEmpty then 0 else 1) < 30)) = true := by rfl)
    (hline : (apos.endLine == cpos.line) = true := by rfl) (hs : starEach (e :: es) X.env = (false, eval e X.env) :: starEach es X.env := by rfl) (hplain : (backTo cpos (starEach es X.env)).any (·.1) = false := by rfl) :
    PE X (.Call (.Attribute o name apos) (e :: es) [] cpos) (tBM X.K T r to t) := by
  intro pins s σ H Q I h
  refine wpAny_Call_method_late hbase hfew hline rfl (thn (ho pins s σ H _ I h) fun v s1 ⟨x, H1, I1, r1, ty, q1⟩ => ?_)
  obtain ⟨h1, h2⟩ := tyV_is I1 r1 ty
  refine ⟨T, id, pa, slot, hty, h1, h2, ?_⟩
  have hA := ha cpos pins s1 σ H1 _ I1 q1
  rw [hs] at hA ⊢
  refine Calls.callWith_builtin (by show (false || (backTo cpos (starEach es X.env)).any (·.1)) = false; rw [hplain] <;> rfl) (Calls.evalArgs_plain ?_)
  exact thn hA fun us s2 ⟨vs, H2, I2, r2, q2⟩ => hm pins s2 σ H2 x vs v us Q I2 r1 r2 q2
end
end L2
namespace L2
open PySem PySem.Spec PyProof.Rows
def MtM (X : Cx) (id : String) (r : V → List V → Hp → VK → Prop) : Prop :=
  ∀ (pins : List (Addr × Obj)) (s : Shared) (σ : St) (H : Hp) (x : V) (xs : List V) (v : Value) (us : List Value) (Q : VK), Inv X pins σ H s → RelV x v → Vals xs us → r x xs H Q →
    wpAny (model X.prog X.w) X.A (call (.builtin id) (v :: us)) (EP X pins σ Q) X.xe s
theorem Vals.one : ∀ {x : V} {us : List Value}, Vals [x] us → ∃ u, us = [u] ∧ RelV x u
  | _, _, .cons r .nil => ⟨_, rfl, r⟩
theorem Vals.two : ∀ {x y : V} {us : List Value}, Vals [x, y] us → ∃ u v, us = [u, v] ∧ RelV x u ∧ RelV y v
  | _, _, _, .cons r (.cons q .nil) => ⟨_, _, rfl, r, q⟩
theorem Vals.zero : ∀ {us : List Value}, Vals [] us → us = []
  | _, .nil => rfl
theorem Vals.eraseIdx : ∀ {xs : List V} {us : List Value} (i : Nat), Vals xs us → Vals (xs.eraseIdx i) (us.eraseIdx i)
  | _, _, _, .nil => .nil
  | _, _, 0, .cons _ t => t
  | _, _, i + 1, .cons r t => .cons r (Vals.eraseIdx i t)
theorem Vals.reverse {xs : List V} {us : List Value} (h : Vals xs us) : Vals xs.reverse us.reverse := by
  induction h with
  | nil => exact .nil
  | cons r t ih => rw [List.reverse_cons, List.reverse_cons]; exact Vals.append ih (.cons r .nil)
theorem Vals.rep {xs : List V} {us : List Value} (h : Vals xs us) : ∀ k : Nat, Vals (List.replicate k xs).flatten (List.replicate k us).flatten
  | 0 => .nil
  | k + 1 => by
    rw [List.replicate_succ, List.replicate_succ, List.flatten_cons, List.flatten_cons]
    exact Vals.append h (Vals.rep h k)
theorem foldl_rep (its : List Value) : ∀ (k : Nat) (acc : List Value),
    List.foldl (fun x1 x2 => x1 ++ x2) acc.toArray (List.replicate k its.toArray) = (acc ++ (List.replicate k its).flatten).toArray
  | 0, acc => by simp
  | k + 1, acc => by
    have e : acc.toArray ++ its.toArray = (acc ++ its).toArray := by simp
    have e2 : (acc ++ its) ++ (List.replicate k its).flatten = acc ++ (List.replicate (k + 1) its).flatten := by
      rw [List.replicate_succ, List.flatten_cons, List.append_assoc]
    rw [← e2, ← foldl_rep its k (acc ++ its), ← e, List.replicate_succ, List.foldl_cons]
section
variable {X : Cx} {pins : List (Addr × Obj)} {σ : St} {H : Hp} {s : Shared} {l b : Addr} {xs ys zs : List V}
theorem Inv.lset {its its' : List Value} {n : Nat} {f : Array Value → Array Value} {t' : Nat} (I : Inv X pins σ H s) (hH : H l = some (.lst xs))
    (e : s.heap.get? l = some { cls := .type "list", data := .seq its.toArray n }) (hf : f its.toArray = its'.toArray) (hv : Vals ys its') (hz : ys.length ≤ sizeLine) :
    Inv X pins σ (upd H l (.lst ys)) { s with heap := s.heap.update l (Obj.mapSeq f), toks := t' } := by
  have q := PySem.IsL.update e f
  rw [hf] at q
  refine I.write (x := l) (e := l) (by rw [hH]; exact trivial) (.inl rfl) (fun b' u hb hu => (Heap.get?_update_other s.heap (Obj.mapSeq f) (Ne.symm hb)).trans hu) ⟨_, q⟩ ?_
  exact ⟨hz, its', _, hv, q⟩
theorem Inv.lnew {its : List Value} {t' : Nat} (I : Inv X pins σ H s) (hv : Vals ys its) (hz : ys.length ≤ sizeLine) :
    Inv X pins σ (upd H s.heap.objs.size (.lst ys)) { s with heap := s.heap.push { cls := .type "list", data := .seq its.toArray }, toks := t' } :=
  I.laid (fun _ _ q => Heap.get?_push_of_some _ q) (Nat.le_refl _) ⟨hz, its, 0, hv, Heap.get?_push_size _ rfl⟩
theorem Inv.fresh (I : Inv X pins σ H s) : H s.heap.objs.size = none := I.hok.fresh (Nat.le_refl _)
theorem Inv.lstM (I : Inv X pins σ H s) (hH : H l = some (.lst xs)) : xs.length ≤ sizeLine ∧ ∃ (its : List Value) (n : Nat), Vals xs its ∧ xs.length = its.length ∧ s.heap.get? l = some { cls := .type "list", data := .seq its.toArray n } := by
  obtain ⟨z, its, n, r, e⟩ := I.hok l _ hH
  exact ⟨z, its, n, r, r.length, e⟩
theorem notLongL {n : Nat} (h : n ≤ sizeLine) : Builtin.List.listTooLong n = false := by
  unfold Builtin.List.listTooLong
  exact decide_eq_false (by omega)
end
section
variable {X : Cx}
def rAppend : V → List V → Hp → VK → Prop := fun x vs H Q => ∃ l xs y, x = .ref l ∧ vs = [y] ∧ H l = some (.lst xs) ∧ xs.length < sizeLine ∧ Q .non (upd H l (.lst (xs ++ [y])))
theorem mt_append : MtM X "list.append" rAppend := by
  intro pins s σ H x vs v us Q I rx rv h
  obtain ⟨l, xs, y, rfl, rfl, hH, hz, q⟩ := h
  cases rx
  obtain ⟨u, rfl, ru⟩ := rv.one
  obtain ⟨z, its, n, r, hl, e⟩ := I.lstM hH
  refine call_meets F.slot_list_append ⟨_, e, rfl⟩ F.entry_list_append (F.args_list_append_2 _ _) (PySem.list_append l its.toArray n u (by rw [List.size_toArray]; omega)) ⟨e, ?_⟩
  refine ⟨.non, _, I.lset (its' := its ++ [u]) hH e (by simp) (r.append (.cons ru .nil)) ?_, rfl, q⟩
  rw [List.length_append, List.length_singleton]
  omega
def rExtend : V → List V → Hp → VK → Prop := fun x vs H Q => ∃ l b xs zs, x = .ref l ∧ vs = [.ref b] ∧ H l = some (.lst xs) ∧ H b = some (.lst zs) ∧ xs.length + zs.length ≤ sizeLine ∧ Q .non (upd H l (.lst (xs ++ zs)))
theorem mt_extend : MtM X "list.extend" rExtend := by
  intro pins s σ H x vs v us Q I rx rv h
  obtain ⟨l, b, xs, zs, rfl, rfl, hH, hB, hz, q⟩ := h
  cases rx
  obtain ⟨u, rfl, ru⟩ := rv.one
  cases ru
  obtain ⟨z, its, n, r, hl, e⟩ := I.lstM hH
  obtain ⟨z2, its2, n2, r2, hl2, e2⟩ := I.lstM hB
  have hsz : its.toArray.size + its2.toArray.size ≤ sizeLine := by rw [List.size_toArray, List.size_toArray]; omega
  have hlong : ¬ (!its.toArray.isEmpty && Builtin.List.listTooLong (its.toArray.size + its2.toArray.size)) = true := by
    rw [notLongL hsz, Bool.and_false]
    exact Bool.false_ne_true
  refine call_meets F.slot_list_extend ⟨_, e, rfl⟩ F.entry_list_extend (F.args_list_extend_2 _ _)
    (AutoSeq1.list_extend_list_list_0 l its.toArray n b its2.toArray n2 hlong (by rw [List.size_toArray]; omega) (by omega)) ⟨e, e2, ?_⟩
  refine ⟨.non, _, I.lset (its' := its ++ its2) hH e (by simp) (r.append r2) ?_, rfl, q⟩
  rw [List.length_append]
  omega
def rCat : R2 := fun x y H Q => ∃ l b xs zs, x = .ref l ∧ y = .ref b ∧ H l = some (.lst xs) ∧ H b = some (.lst zs) ∧ xs.length + zs.length ≤ sizeLine ∧ ∀ p, H p = none → Q (.ref p) (upd H p (.lst (xs ++ zs)))
theorem op_cat : OpR X (binaryOp .Add) rCat := by
  intro pins s σ H x y v u Q I rx ry h
  obtain ⟨l, b, xs, zs, rfl, rfl, hH, hB, hz, q⟩ := h
  cases rx
  cases ry
  obtain ⟨z, its, n, r, hl, e⟩ := I.lstM hH
  obtain ⟨z2, its2, n2, r2, hl2, e2⟩ := I.lstM hB
  refine PySem.P.add_list e e2 ?_ (by rw [List.size_toArray, List.size_toArray]; omega)
  have ea : its.toArray ++ its2.toArray = (its ++ its2).toArray := by simp
  rw [ea]
  exact ⟨.ref _, _, I.lnew (t' := s.toks) (r.append r2) (by rw [List.length_append]; omega), rfl, q _ I.fresh⟩
def rRep : R2 := fun x y H Q => ∃ l k xs, x = .ref l ∧ y = .int k ∧ H l = some (.lst xs) ∧ -(2 ^ 63) ≤ k ∧ k < 2 ^ 63 ∧ xs.length * k.toNat ≤ sizeLine ∧
  ∀ p, H p = none → Q (.ref p) (upd H p (.lst (List.replicate k.toNat xs).flatten))
theorem len_rep {α : Type} (xs : List α) (k : Nat) : (List.replicate k xs).flatten.length = k * xs.length := by
  induction k with
  | zero => simp
  | succ k ih => rw [List.replicate_succ, List.flatten_cons, List.length_append, ih, Nat.succ_mul, Nat.add_comm]
theorem op_rep : OpR X (binaryOp .Mult) rRep := by
  intro pins s σ H x y v u Q I rx ry h
  obtain ⟨l, k, xs, rfl, rfl, hH, h1, h2, hz, q⟩ := h
  cases rx
  obtain ⟨t, rfl⟩ := ry
  obtain ⟨z, its, n, r, hl, e⟩ := I.lstM hH
  have hlen : its.toArray.size * k.toNat ≤ sizeLine := by rw [List.size_toArray, ← hl]; exact hz
  have hcap : ¬ its.toArray.size * k.toNat > (2 ^ 63 - 1) / 8 := by
    have : (sizeLine : Nat) ≤ (2 ^ 63 - 1) / 8 := by decide
    omega
  have hfit : ¬ (!Builtin.List.listFitsIndex k) = true := by
    rw [fitsIndex_both h1 h2]
    exact Bool.false_ne_true
  have hlong : ¬ Builtin.List.listTooLong (its.toArray.size * k.toNat) = true := by
    rw [notLongL hlen]
    exact Bool.false_ne_true
  have hnew : List.foldl (fun x1 x2 => x1 ++ x2) #[] (List.replicate (if its.toArray.isEmpty = true then 0 else k.toNat) its.toArray) = (List.replicate k.toNat its).flatten.toArray := by
    have f0 : ∀ m : Nat, List.foldl (fun x1 x2 => x1 ++ x2) #[] (List.replicate m its.toArray) = (List.replicate m its).flatten.toArray := fun m => by
      have := foldl_rep its m []
      rw [List.nil_append] at this
      exact this
    rw [f0]
    cases its with
    | nil => simp
    | cons a r' => rw [if_neg (by simp)]
  refine wpAny_binaryOp_repeat_ref (T := "list") (U := "int") (by decide) ⟨_, e, rfl⟩ (fun s' => typeIs_int s' k t) noFill_list_mul F.fills_int_mul F.slot_int_rmul repeat_list F.slot_int_index.lookup
    (call_meets F.slot_int_rmul (typeIs_int s k t) F.entry_int_rmul (F.args_int_rmul_2 _ _) (int___rmul___int_list k t l its.toArray n)
      ⟨e, rfl, ⟨_, e, rfl⟩, call_meets F.slot_list_mul ⟨_, e, rfl⟩ F.entry_list_mul (F.args_list_mul_2 _ _) (AutoListH.list___mul___list_int_3 l its.toArray n k t hfit hcap hlong) ⟨e, ?_⟩⟩)
  rw [hnew]
  exact ⟨.ref _, _, I.lnew (t' := s.toks) (r.rep k.toNat) (by rw [len_rep, Nat.mul_comm]; exact hz), rfl, q _ I.fresh⟩
end
end L2
namespace L2
open PySem PySem.Spec PyProof.Rows
theorem Vals.ints : ∀ {ns : List Int} {us : List Value}, Vals (ns.map V.int) us → IntsAre us ns
  | [], us, h => by
    rw [List.map_nil] at h
    cases h
    exact IntsAre.nil
  | n :: ns, us, h => by
    rw [List.map_cons] at h
    cases h with
    | cons r t =>
      obtain ⟨k, rfl⟩ := r
      exact IntsAre.cons n k (Vals.ints t)
theorem vals_of_ints : ∀ {us : List Value} {ns : List Int}, IntsAre us ns → Vals (ns.map V.int) us
  | _, _, .nil => by rw [List.map_nil]; exact Paired.nil
  | _, _, .cons n t h => by rw [List.map_cons]; exact Paired.cons (show RelV (V.int n) (Value.int n t) from ⟨t, rfl⟩) (vals_of_ints h)
theorem Vals.strs : ∀ {xs : List Str} {us : List Value}, Vals (xs.map V.str) us → StrsAre us xs
  | [], us, h => by
    rw [List.map_nil] at h
    cases h
    exact StrsAre.nil
  | x :: xs, us, h => by
    rw [List.map_cons] at h
    cases h with
    | cons r t =>
      obtain ⟨k, rfl⟩ := r
      exact StrsAre.cons x k (Vals.strs t)
theorem Vals.ref1 {a : Addr} {us : List Value} (r : Vals [V.ref a] us) : us = [Value.ref a] := by
  cases r with
  | cons r t =>
    cases t
    cases r
    rfl
section
variable {prog : Program} {w : World} {A : Around} {E : Value → Shared → Prop} {s : Shared} {l : Addr} {its : List Value} {ns : List Int} {Q : Value → Shared → Prop}
theorem sum_raw (hh : A.handled = none) (hl : s.heap.IsList l its.toArray) (hi : IntsAre its ns)
    (h : ∀ h' tk t', (∀ b o, s.heap.get? b = some o → h'.get? b = some o) → Q (.int ns.sum t') { s with heap := h', toks := tk }) : wpAny (model prog w) A (call (.builtin "sum") [.ref l]) Q E s := by
  obtain ⟨xs, e⟩ := hi.allInts.items
  have hn : numsOf (intItems xs).toList = ns := by rw [← e]; exact hi.numsOf
  rw [nums_intItems] at hn
  rw [e] at hl
  refine PySem.sum_intListG hh hl fun h' tk t' hk => ?_
  have := h h' tk t' hk
  rw [preSum_eq, List.take_of_length_le (by simp), hn]; exact this
theorem max_raw (hh : A.handled = none) (hl : s.heap.IsList l its.toArray) (hi : IntsAre its ns) (hne : 0 < ns.length)
    (h : ∀ h' tk M t', (∀ b o, s.heap.get? b = some o → h'.get? b = some o) → M ∈ ns → (∀ a, a ∈ ns → a ≤ M) → Q (.int M t') { s with heap := h', toks := tk }) : wpAny (model prog w) A (call (.builtin "max") [.ref l]) Q E s := by
  obtain ⟨xs, e⟩ := hi.allInts.items
  have hn : numsOf (intItems xs).toList = ns := by rw [← e]; exact hi.numsOf
  rw [nums_intItems] at hn
  subst hn
  rw [e] at hl
  have hsz : 0 < xs.size := by simpa using hne
  refine PySem.max_intList hh hl hsz fun v h' tk hv hk => ?_
  obtain ⟨t, rfl⟩ := intItems_at hv
  obtain ⟨h1, h2⟩ := argBest_gt (numAt xs) (xs.size - 1)
  refine h h' tk _ t hk ?_ fun a ha => ?_
  · rw [numAt_eq]; exact PySem.getD_mem (by rw [List.length_map, Array.length_toList]; omega)
  · obtain ⟨j, hj, rfl⟩ := mem_getD ha
    rw [List.length_map, Array.length_toList] at hj
    rw [← numAt_eq]; exact h2 j (by omega)
end
section
variable {X : Cx}
def rSum (K : PySem.W.Frag) : List V → Hp → VK → Prop := fun vs H Q => ∃ (a : Addr) (ns : List Int), vs = [V.ref a] ∧ SqL K H a (ns.map V.int) ∧ Q (.int ns.sum) H
def rMax (K : PySem.W.Frag) : List V → Hp → VK → Prop := fun vs H Q => ∃ (a : Addr) (ns : List Int), vs = [V.ref a] ∧ SqL K H a (ns.map V.int) ∧ 0 < ns.length ∧ ∀ m, m ∈ ns → (∀ y, y ∈ ns → y ≤ m) → Q (.int m) H
theorem cr_sum (hc : X.calm = true) : CallR X (.builtin "sum") (rSum X.K) := by
  intro pins s σ H vs us Q I r h
  obtain ⟨a, ns, rfl, hs, q⟩ := h
  obtain ⟨its, rv, hl, _⟩ := I.list hs
  rw [Vals.ref1 r]
  exact sum_raw (I.ok.hd hc) hl.isList rv.ints fun h' tk t' hk => ⟨.int _, H, I.kept hk, ⟨_, rfl⟩, q⟩
theorem cr_max (hc : X.calm = true) : CallR X (.builtin "max") (rMax X.K) := by
  intro pins s σ H vs us Q I r h
  obtain ⟨a, ns, rfl, hs, hne, q⟩ := h
  obtain ⟨its, rv, hl, _⟩ := I.list hs
  rw [Vals.ref1 r]
  exact max_raw (I.ok.hd hc) hl.isList rv.ints hne fun h' tk m t' hk h1 h2 => ⟨.int _, H, I.kept hk, ⟨_, rfl⟩, q m h1 h2⟩
end
mutual
inductive Dp (K : PySem.W.Frag) (H : Hp) : V → PyData → Prop
  | non : Dp K H .non .none
  | bl (b : Bool) : Dp K H (.bl b) (.bool b)
  | int (i : Int) : Dp K H (.int i) (.int i)
  | str (x : Str) : Dp K H (.str x) (.str x)
  | lst {a : Addr} {xs : List V} {ds : List PyData} : SqL K H a xs → DpAll K H xs ds → Dp K H (.ref a) (.list ds)
  | tup {a : Addr} {xs : List V} {ds : List PyData} : SqT K H a xs → DpAll K H xs ds → Dp K H (.ref a) (.tuple ds)
inductive DpAll (K : PySem.W.Frag) (H : Hp) : List V → List PyData → Prop
  | nil : DpAll K H [] []
  | cons {v : V} {vs : List V} {d : PyData} {ds : List PyData} : Dp K H v d → DpAll K H vs ds → DpAll K H (v :: vs) (d :: ds)
end
section
variable {X : Cx} {pins : List (Addr × Obj)} {σ : St} {H : Hp} {s : Shared}
mutual
theorem Dp.reads (I : Inv X pins σ H s) : ∀ (d : PyData) (v : V) (u : Value), Dp X.K H v d → RelV v u → ∃ as, Reads s.heap u d as
  | .none, _, _, h, r => by
    cases h
    cases r
    exact ⟨_, Reads.none⟩
  | .bool b, _, _, h, r => by
    cases h
    cases r
    exact ⟨_, Reads.bool b⟩
  | .int i, _, _, h, r => by
    cases h
    obtain ⟨t, rfl⟩ := r
    exact ⟨_, Reads.int i t⟩
  | .str x, _, _, h, r => by
    cases h
    obtain ⟨t, rfl⟩ := r
    exact ⟨_, Reads.str x t⟩
  | .list ds, _, _, h, r => by
    cases h with
    | lst hs ha =>
      cases r
      obtain ⟨its, rv, ⟨o, n, ho, hc, _, hd⟩, _⟩ := I.list hs
      obtain ⟨as, hr⟩ := Dp.readsAll I ds _ its ha rv
      exact ⟨_, Reads.list ho hc hd hr⟩
  | .tuple ds, _, _, h, r => by
    cases h with
    | tup hs ha =>
      cases r
      obtain ⟨its, rv, ⟨o, ho, hc, n, hd⟩, _⟩ := I.tuple hs
      obtain ⟨as, hr⟩ := Dp.readsAll I ds _ its ha rv
      exact ⟨_, Reads.tuple ho hc hd hr⟩
  | .dict _, _, _, h, _ => by cases h
theorem Dp.readsAll (I : Inv X pins σ H s) : ∀ (ds : List PyData) (vs : List V) (us : List Value), DpAll X.K H vs ds → Vals vs us → ∃ as, ReadsAll s.heap us ds as
  | [], _, _, h, r => by
    cases h
    cases r
    exact ⟨_, ReadsAll.nil⟩
  | d :: ds, _, _, h, r => by
    cases h with
    | cons h1 h2 =>
      cases r with
      | cons r1 r2 =>
        obtain ⟨as, q1⟩ := Dp.reads I d _ _ h1 r1
        obtain ⟨bs, q2⟩ := Dp.readsAll I ds _ _ h2 r2
        exact ⟨_, ReadsAll.cons q1 q2⟩
end
end
end L2
namespace L2
open PySem PySem.Spec PyProof.Rows
abbrev CellAt (h : Heap) (c : Addr) (v : Option Value) : Prop := h.IsCell c v
def relS (scope sc : Scope) : Scope :=
  { scope with names := scope.names.map fun (n, k) => if (k == .free && sc.kind == .function && sc.names.lookup n == some .cell) then (n, .cell) else (n, k) }
def cloFrom (cells : List (Str × Addr)) : List (Str × NameKind) → List (Str × Addr) → List (Str × Addr)
  | [], acc => acc
  | (n, k) :: r, acc => if k == .free then cloFrom cells r ((n, (cells.lookup n).getD 0) :: acc) else cloFrom cells r acc
theorem closure_loop (env : Env) (f : Str × NameKind → List (Str × Addr) → Sem (ForInStep (List (Str × Addr))))
    (hf : ∀ n k c, f (n, k) c = if k == .free then (do let a ← cellOf env n; pure (.yield ((n, a) :: c))) else pure (.yield c)) :
    ∀ (names : List (Str × NameKind)) (acc : List (Str × Addr)), (∀ y ∈ names, y.2 = .free → ∃ c, env.cells.lookup y.1 = some c) → forIn names acc f = pure (cloFrom env.cells names acc)
  | [], acc, _ => by rw [List.forIn_nil]; rfl
  | (n, k) :: r, acc, h => by
    rw [List.forIn_cons, hf]
    have ih := fun acc => closure_loop env f hf r acc fun y hy => h y (List.mem_cons_of_mem _ hy)
    unfold cloFrom
    by_cases hk : (k == NameKind.free) = true
    · rw [if_pos hk, if_pos hk]
      obtain ⟨c, hc⟩ := h (n, k) List.mem_cons_self (by simpa using hk)
      have e : cellOf env n = pure c := by unfold cellOf; rw [hc]
      rw [e]
      have e2 : (env.cells.lookup n).getD 0 = c := by rw [hc]; rfl
      rw [e2]
      exact ih _
    · rw [if_neg hk, if_neg hk]
      exact ih _
theorem closure_ok {scope : Scope} {env : Env} (h : ∀ y ∈ scope.names, y.2 = .free → ∃ c, env.cells.lookup y.1 = some c) : closureFor scope env = pure (cloFrom env.cells scope.names []) := by
  simp only [closureFor]
  rw [closure_loop env _ (fun n k c => rfl) scope.names [] h]
  rfl
theorem mem_lookup {α : Type} : ∀ {l : List (Str × α)} {n : Str} {c : α}, (n, c) ∈ l → ∃ c', l.lookup n = some c'
  | (k, v) :: r, n, c, h => by
    rw [List.lookup_cons]
    cases hb : n == k with
    | true => exact ⟨_, rfl⟩
    | false =>
      rcases List.mem_cons.mp h with e | h
      · cases e; simp at hb
      · exact mem_lookup h
theorem cloFrom_mem {cells : List (Str × Addr)} : ∀ {names : List (Str × NameKind)} {acc : List (Str × Addr)} {n : Str} {c : Addr}, (n, c) ∈ cloFrom cells names acc → (n, c) ∈ acc ∨ ((n, .free) ∈ names ∧ c = (cells.lookup n).getD 0)
  | [], _, _, _, h => .inl h
  | (m, k) :: r, acc, n, c, h => by
    unfold cloFrom at h
    split at h
    · rename_i hk
      have hk : k = .free := by simpa using hk
      rcases cloFrom_mem h with h | ⟨h1, h2⟩
      · rcases List.mem_cons.mp h with e | h
        · cases e; exact .inr ⟨hk ▸ List.mem_cons_self, rfl⟩
        · exact .inl h
      · exact .inr ⟨List.mem_cons_of_mem _ h1, h2⟩
    · rcases cloFrom_mem h with h | ⟨h1, h2⟩
      · exact .inl h
      · exact .inr ⟨List.mem_cons_of_mem _ h1, h2⟩
theorem cloFrom_acc {cells : List (Str × Addr)} : ∀ {names : List (Str × NameKind)} {acc : List (Str × Addr)} {p : Str × Addr}, p ∈ acc → p ∈ cloFrom cells names acc
  | [], _, _, h => h
  | (m, k) :: r, acc, p, h => by
    unfold cloFrom
    split
    · exact cloFrom_acc (List.mem_cons_of_mem _ h)
    · exact cloFrom_acc h
theorem cloFrom_has {cells : List (Str × Addr)} : ∀ {names : List (Str × NameKind)} {acc : List (Str × Addr)} {n : Str}, (n, .free) ∈ names → (n, (cells.lookup n).getD 0) ∈ cloFrom cells names acc
  | (m, k) :: r, acc, n, h => by
    unfold cloFrom
    rcases List.mem_cons.mp h with e | h
    · cases e
      exact cloFrom_acc List.mem_cons_self
    · split
      · exact cloFrom_has h
      · exact cloFrom_has h
theorem cells_mem : ∀ {names : List (Str × NameKind)} {h : Heap} {acc : List (Str × Addr)} {x : Str} {c : Addr}, (x, c) ∈ cellsFrom h.objs.size names acc →
    (x, c) ∈ acc ∨ ((x, .cell) ∈ names ∧ h.objs.size ≤ c ∧ CellAt (pushCells h names) c none)
  | [], _, _, _, _, h => .inl h
  | (n, k) :: r, h, acc, x, c, hm => by
    unfold cellsFrom at hm
    unfold pushCells
    split at hm
    · rename_i hk
      rw [if_pos hk]
      have hk : k = .cell := by simpa using hk
      rw [← Heap.size_push h { cls := .type "cell", data := .cell none }] at hm
      rcases cells_mem hm with hm | ⟨h1, h2, h3⟩
      · rcases List.mem_cons.mp hm with e | hm
        · cases e
          exact .inr ⟨hk ▸ List.mem_cons_self, Nat.le_refl _, _, pushCells_keeps r _ _ _ (Heap.get?_push_size _ rfl), rfl⟩
        · exact .inl hm
      · rw [Heap.size_push] at h2
        exact .inr ⟨List.mem_cons_of_mem _ h1, Nat.le_of_succ_le h2, h3⟩
    · rename_i hk
      rw [if_neg hk]
      rcases cells_mem hm with hm | ⟨h1, h2, h3⟩
      · exact .inl hm
      · exact .inr ⟨List.mem_cons_of_mem _ h1, h2, h3⟩
theorem cells_acc : ∀ {names : List (Str × NameKind)} {n : Nat} {acc : List (Str × Addr)} {p : Str × Addr}, p ∈ acc → p ∈ cellsFrom n names acc
  | [], _, _, _, h => h
  | (m, k) :: r, n, acc, p, h => by
    unfold cellsFrom
    split
    · exact cells_acc (List.mem_cons_of_mem _ h)
    · exact cells_acc h
theorem cells_has : ∀ {names : List (Str × NameKind)} {n : Nat} {acc : List (Str × Addr)} {x : Str}, (x, .cell) ∈ names → ∃ c, (x, c) ∈ cellsFrom n names acc
  | (m, k) :: r, n, acc, x, h => by
    unfold cellsFrom
    rcases List.mem_cons.mp h with e | h
    · cases e
      exact ⟨n, cells_acc List.mem_cons_self⟩
    · split
      · exact cells_has h
      · exact cells_has h
theorem cells_inj : ∀ {names : List (Str × NameKind)} {h : Heap} {acc : List (Str × Addr)} {x y : Str} {c : Addr}, (∀ p ∈ acc, p.2 < h.objs.size) → (∀ x y c, (x, c) ∈ acc → (y, c) ∈ acc → x = y) →
    (x, c) ∈ cellsFrom h.objs.size names acc → (y, c) ∈ cellsFrom h.objs.size names acc → x = y
  | [], _, _, _, _, _, _, hi, h1, h2 => hi _ _ _ h1 h2
  | (n, k) :: r, h, acc, x, y, c, hl, hi, h1, h2 => by
    unfold cellsFrom at h1 h2
    split at h1
    · rename_i hk
      rw [if_pos hk] at h2
      rw [← Heap.size_push h { cls := .type "cell", data := .cell none }] at h1 h2
      refine cells_inj (h := h.push _) (fun p hp => ?_) (fun x y c a b => ?_) h1 h2
      · rw [Heap.size_push]
        rcases List.mem_cons.mp hp with rfl | hp
        · exact Nat.lt_succ_self _
        · exact Nat.lt_succ_of_lt (hl p hp)
      · rcases List.mem_cons.mp a with e | a <;> rcases List.mem_cons.mp b with e' | b
        · cases e; cases e'; rfl
        · cases e; exact absurd (hl _ b) (Nat.lt_irrefl _)
        · cases e'; exact absurd (hl _ a) (Nat.lt_irrefl _)
        · exact hi _ _ _ a b
    · rename_i hk
      rw [if_neg hk] at h2
      exact cells_inj hl hi h1 h2
theorem newEnv_comp {M : Model} {A : Around} {E : Value → Shared → Prop} {s : Shared} {scope : Scope} {globals : Addr} {closure : List (Str × Addr)} {qual : Str} {func : Option Addr} {code : Value} {around : Env} {builtins : Addr} {Q : Env → Shared → Prop}
    (h : Q (newEnv scope s.heap.objs.size globals (cellsFrom (s.heap.objs.size + 1) scope.names closure) qual func code (some around) builtins)
      { s with heap := pushCells (s.heap.push { cls := .type "dict", data := .dict #[] }) scope.names }) :
    wpAny M A (newFunctionEnv scope globals closure [] qual func code (some around) builtins) Q E s := by
  simp only [newFunctionEnv, Option.isSome_some, if_true]
  refine wpAny_bind (wpAny_alloc ?_)
  refine wpAny_bind (wpAny_layCells _ (fun n k c => rfl) scope.names closure _ _ ?_)
  rw [show ({ s with heap := s.heap.push { cls := .type "dict", data := .dict #[] } } : Shared).heap.objs.size = s.heap.objs.size + 1 from Heap.size_push ..]
  rw [List.forIn_nil]
  exact wpAny_bind (wpAny_pure (wpAny_pure h))
theorem lookup_relS {sc : Scope} : ∀ {names : List (Str × NameKind)} {x : Str} {k : NameKind},
    (names.map fun (n, k) => if (k == NameKind.free && sc.kind == .function && sc.names.lookup n == some .cell) then (n, NameKind.cell) else (n, k)).lookup x = some k →
    ∃ k', names.lookup x = some k' ∧ (k = k' ∨ (k' = .free ∧ k = .cell))
  | [], _, _, h => by simp at h
  | (n, k₀) :: r, x, k, h => by
    have ih := @lookup_relS sc r x k
    have h' : List.lookup x ((if (k₀ == NameKind.free && sc.kind == .function && sc.names.lookup n == some .cell) = true then (n, NameKind.cell) else (n, k₀)) :: (r.map _)) = some k := h
    cases hx : x == n with
    | true =>
      simp only [List.lookup_cons, hx]
      by_cases hc : (k₀ == NameKind.free && sc.kind == .function && sc.names.lookup n == some .cell) = true
      · rw [if_pos hc] at h'
        simp only [List.lookup_cons, hx] at h'
        cases h'
        simp only [Bool.and_eq_true, beq_iff_eq] at hc
        exact ⟨k₀, rfl, .inr ⟨hc.1.1, rfl⟩⟩
      · rw [if_neg hc] at h'
        simp only [List.lookup_cons, hx] at h'
        cases h'
        exact ⟨_, rfl, .inl rfl⟩
    | false =>
      simp only [List.lookup_cons, hx]
      by_cases hc : (k₀ == NameKind.free && sc.kind == .function && sc.names.lookup n == some .cell) = true
      · rw [if_pos hc] at h'
        simp only [List.lookup_cons, hx] at h'
        exact ih h'
      · rw [if_neg hc] at h'
        simp only [List.lookup_cons, hx] at h'
        exact ih h'
structure BlkOk (N : List Str) (sc scope : Scope) (own : List (Str × Nat)) : Prop where
  kind : scope.kind = .function
  uniq : ∀ y ∈ scope.names, scope.names.lookup y.1 = some y.2
  ix : ∀ p ∈ own, N[p.2]? = some p.1
  free : ∀ y ∈ scope.names, y.2 = .free → sc.names.lookup y.1 = some .cell ∨ sc.names.lookup y.1 = some .free
  own : ∀ y ∈ scope.names, y.2 = .local ∨ y.2 = .cell → y.1 ∈ own.map (·.1) ∨ y.1 ∉ N
def wipe (σ : St) : List Nat → St
  | [] => σ
  | v :: vs => (wipe σ vs).set v none
theorem wipe_length (σ : St) : ∀ vs : List Nat, (wipe σ vs).length = σ.length
  | [] => rfl
  | v :: vs => by unfold wipe; rw [List.length_set, wipe_length σ vs]
theorem wipe_some {σ : St} {i : Nat} {x : V} : ∀ {vs : List Nat}, (wipe σ vs)[i]? = some (some x) → σ[i]? = some (some x) ∧ i ∉ vs
  | [], h => ⟨h, by simp⟩
  | v :: vs, h => by
    unfold wipe at h
    by_cases hi : v = i
    · subst hi
      by_cases hv : v < (wipe σ vs).length
      · rw [List.getElem?_set_self hv] at h; cases h
      · rw [List.getElem?_eq_none (by simpa using hv)] at h; cases h
    · rw [List.getElem?_set_ne hi] at h
      obtain ⟨h1, h2⟩ := wipe_some h
      exact ⟨h1, by simp only [List.mem_cons, not_or]; exact ⟨fun e => hi e.symm, h2⟩⟩
abbrev Cx.blk (X : Cx) (s : Shared) (H : Hp) (scope : Scope) (cenv : Env) (fp : List Addr) : Cx := { X with s_0 := s, H_0 := H, env := cenv, outer := X.stack, ex := fp, fn := fun x => scope.names.lookup x == some .cell, pn := [], xe := fun _ _ => False }
section
variable {X : Cx} {pins : List (Addr × Obj)} {σ : St} {H : Hp} {s : Shared}
theorem block_start {scope : Scope} {own : List (Str × Nat)} {fp : List Addr} (I : Inv X pins σ H s) (ok : BlkOk X.N X.env.scope scope own) (hN : X.N.Nodup) (hfp : ∀ b ∈ fp, FpOk X pins H b ∧ b < s.heap.objs.size) :
    Inv (X.blk s H scope (compEnvC scope (cellsFrom (s.heap.objs.size + 1) scope.names (cloFrom X.env.cells scope.names [])) s.heap.objs.size X.env) fp) [] (wipe σ (own.map (·.2))) H { s with heap := pushCells (s.heap.push { cls := .type "dict", data := .dict #[] }) scope.names } := by
  have hfree : ∀ y ∈ scope.names, y.2 = .free → ∃ c, X.env.cells.lookup y.1 = some c := fun y hy e => by
    rcases ok.free y hy e with k | k
    · exact I.ok.has _ (.inl k)
    · exact I.ok.has _ (.inr k)
  generalize hcenv : compEnvC scope (cellsFrom (s.heap.objs.size + 1) scope.names (cloFrom X.env.cells scope.names [])) s.heap.objs.size X.env = cenv
  have kp : ∀ b o, s.heap.get? b = some o → (pushCells (s.heap.push { cls := .type "dict", data := .dict #[] }) scope.names).get? b = some o := fun b o e => pushCells_keeps _ _ _ _ (Heap.get?_push_of_some _ e)
  have hL : cenv.locals = s.heap.objs.size := by rw [← hcenv]; rfl
  have hcl : cenv.cells = cellsFrom (s.heap.objs.size + 1) scope.names (cloFrom X.env.cells scope.names []) := by rw [← hcenv]; rfl
  have hsc : cenv.scope = relS scope X.env.scope := by rw [← hcenv]; rfl
  rw [← Heap.size_push s.heap { cls := .type "dict", data := .dict #[] }] at hcl
  have cm : ∀ {y c}, (y, c) ∈ cloFrom X.env.cells scope.names [] → X.env.cells.lookup y = some c ∧ c < s.heap.objs.size := fun {y c} hm => by
    rcases cloFrom_mem hm with hm | ⟨h1, rfl⟩
    · cases hm
    · obtain ⟨c, hc⟩ := hfree _ h1 rfl
      rw [hc]
      obtain ⟨w, z⟩ := I.cell _ _ hc
      exact ⟨rfl, z.lt⟩
  have mem : ∀ {y c}, cenv.cells.lookup y = some c → (X.env.cells.lookup y = some c ∧ c < s.heap.objs.size) ∨ (s.heap.objs.size + 1 ≤ c ∧ CellAt (pushCells (s.heap.push { cls := .type "dict", data := .dict #[] }) scope.names) c none) := fun {y c} e => by
    rw [hcl] at e
    rcases cells_mem (PySem.mem_of_lookup e) with hm | ⟨_, h2, h3⟩
    · exact .inl (cm hm)
    · rw [Heap.size_push] at h2; exact .inr ⟨h2, h3⟩
  have look : ∀ {y}, scope.names.lookup y = some .free → ∃ c, cenv.cells.lookup y = some c ∧ X.env.cells.lookup y = some c := fun {y} hl => by
    have hy : (y, NameKind.free) ∈ scope.names := PySem.mem_of_lookup hl
    obtain ⟨c', e'⟩ := mem_lookup (cells_acc (names := scope.names) (n := (s.heap.push { cls := .type "dict", data := .dict #[] }).objs.size) (cloFrom_has (cells := X.env.cells) (acc := []) hy))
    rw [← hcl] at e'
    refine ⟨c', e', ?_⟩
    rw [hcl] at e'
    rcases cells_mem (PySem.mem_of_lookup e') with hm | ⟨h1, _, _⟩
    · exact (cm hm).1
    · have := ok.uniq _ h1
      rw [hl] at this; cases this
  have okB : (X.blk s H scope cenv fp).Ok := by
    refine ⟨I.ok.mod, by show cenv.scope.kind = _; rw [hsc]; exact ok.kind, by show cenv.globals = _; rw [← hcenv]; exact I.ok.glob, by show cenv.builtins = _; rw [← hcenv]; exact I.ok.blt, by show s.heap.objs.size ≤ cenv.locals; rw [hL]; exact Nat.le_refl _,
      fun y z c e1 e2 => ?_, fun y hy => ?_, fun y c z e => ?_, I.ok.hd, I.ok.frames, .inl rfl, fun b hb => ⟨?_, fun y c e z => ?_⟩, I.bs, Nat.le_trans I.ok.bsz I.sz, fun b o e hb => ?_, fun b hb z => ?_, I.stack, I.stkFree⟩
    · have e1 : cenv.cells.lookup y = some c := e1
      have e2 : cenv.cells.lookup z = some c := e2
      rw [hcl] at e1 e2
      refine cells_inj (fun p hp => ?_) (fun y z c a b => I.ok.inj y z c (cm a).1 (cm b).1) (PySem.mem_of_lookup e1) (PySem.mem_of_lookup e2)
      rw [Heap.size_push]
      exact Nat.lt_succ_of_lt (cm (y := p.1) (c := p.2) hp).2
    · show ∃ c, cenv.cells.lookup y = some c
      have key : ∀ k, cenv.kindOf y = some k → (k = .cell ∨ k = .free) → ∃ c, cenv.cells.lookup y = some c := fun k hk hk' => by
        unfold Env.kindOf at hk
        rw [hsc] at hk
        obtain ⟨k', e, r⟩ := lookup_relS hk
        have : k' = .cell ∨ k' = .free := by
          rcases r with rfl | ⟨rfl, _⟩
          · exact hk'
          · exact .inr rfl
        rcases this with rfl | rfl
        · obtain ⟨c, hm⟩ := cells_has (n := (s.heap.push { cls := .type "dict", data := .dict #[] }).objs.size) (acc := cloFrom X.env.cells scope.names []) (PySem.mem_of_lookup e)
          obtain ⟨c', e'⟩ := mem_lookup hm
          exact ⟨c', by rw [hcl]; exact e'⟩
        · obtain ⟨c, h1, _⟩ := look e
          exact ⟨c, h1⟩
      rcases hy with hy | hy
      · exact key _ hy (.inl rfl)
      · exact key _ hy (.inr rfl)
    · have z : (scope.names.lookup y == some NameKind.cell) = true := z
      have z : scope.names.lookup y = some .cell := by simpa using z
      have e : cenv.cells.lookup y = some c := e
      rw [hcl] at e
      rcases cells_mem (PySem.mem_of_lookup e) with hm | ⟨_, h2, _⟩
      · rcases cloFrom_mem hm with hm | ⟨h1, _⟩
        · cases hm
        · have q := ok.uniq _ h1
          rw [z] at q; cases q
      · rw [Heap.size_push] at h2
        exact Nat.le_of_succ_le h2
    · show b ≠ cenv.locals
      rw [hL]; exact Nat.ne_of_lt (hfp b hb).2
    · have e : cenv.cells.lookup y = some c := e
      rcases mem e with ⟨h1, _⟩ | ⟨h1, _⟩
      · exact (hfp b hb).1.2.2.2.2.1 y c h1 z
      · have h2 : s.heap.objs.size + 1 ≤ b := by rw [← z]; exact h1
        exact absurd (Nat.lt_of_lt_of_le (hfp b hb).2 (Nat.le_of_succ_le h2)) (Nat.lt_irrefl _)
    · rcases (hfp b hb).1.2.2.2.1 with z | z
      · exact I.ok.noex b o e z
      · exact absurd (Nat.lt_of_lt_of_le (Heap.lt_size e) (Nat.le_trans I.ok.bsz z)) (Nat.lt_irrefl _)
    · rcases List.mem_cons.mp (I.stkSub b z) with z | z
      · exact (hfp b hb).1.2.1 z
      · exact (hfp b hb).1.2.2.1 z
  refine ⟨okB, rfl, I.bare, Un.kept kp, ⟨fun _ => none, ?_, fun i y av e1 e2 e3 => ?_⟩, fun y c e => ?_, ?_, fun y c e => ?_, fun p hp => ?_, I.hok.kept kp, by rw [wipe_length]; exact I.len⟩
  · show Heap.Ns _ cenv.locals _
    rw [hL]
    exact Heap.Ns.keeps (Heap.Ns.new ..) fun b o e => pushCells_keeps _ _ _ _ e
  · obtain ⟨e2, hne⟩ := wipe_some e2
    have hfr : scope.names.lookup y = some .free ∧ (cenv.kindOf y = some .cell ∨ cenv.kindOf y = some .free) := by
      have key : ∀ k, cenv.scope.names.lookup y = some k → k = .local ∨ k = .cell ∨ k = .free → scope.names.lookup y = some .free ∧ (cenv.kindOf y = some .cell ∨ cenv.kindOf y = some .free) := fun k hk hk' => by
        have hk0 := hk
        rw [hsc] at hk
        obtain ⟨k', e, r⟩ := lookup_relS hk
        have no : ¬ (k' = .local ∨ k' = .cell) := fun hh => by
          rcases ok.own _ (PySem.mem_of_lookup e) hh with e' | e'
          · obtain ⟨p, hp, hpy⟩ := List.mem_map.mp e'
            have e3 := ok.ix p hp
            have : p.1 = y := hpy
            rw [this] at e3
            exact hne (List.mem_map.mpr ⟨p, hp, nodup_ix hN e3 e1⟩)
          · exact e' (List.mem_of_getElem? e1)
        rcases r with rfl | ⟨rfl, rfl⟩
        · rcases hk' with rfl | rfl | rfl
          · exact absurd (.inl rfl) no
          · exact absurd (.inr rfl) no
          · exact ⟨e, .inr hk0⟩
        · exact ⟨e, .inl hk0⟩
      have e3 : Vis cenv.scope y := e3
      rcases e3 with e3 | e3 | e3
      · exact key _ e3 (.inl rfl)
      · exact key _ e3 (.inr (.inl rfl))
      · exact key _ e3 (.inr (.inr rfl))
    obtain ⟨m, hn, hl⟩ := I.loc
    have hvis : Vis X.env.scope y := (ok.free _ (PySem.mem_of_lookup hfr.1) rfl).elim (fun k => .inr (.inl k)) (fun k => .inr (.inr k))
    obtain ⟨w, r, q⟩ := hl i y av e1 e2 hvis
    refine ⟨w, r, .inr ⟨hfr.2, ?_⟩⟩
    obtain ⟨c, h1, h2⟩ := look hfr.1
    rcases q with ⟨k, _⟩ | ⟨_, c', e', z⟩
    · have k : X.env.scope.names.lookup y = some .local := k
      rcases ok.free _ (PySem.mem_of_lookup hfr.1) rfl with k' | k' <;> rw [show X.env.scope.names.lookup y = _ from k'] at k <;> cases k
    · rw [h2] at e'; cases e'
      exact ⟨c, h1, z.keeps kp⟩
  · have e : cenv.cells.lookup y = some c := e
    rcases mem e with ⟨h1, _⟩ | ⟨_, z⟩
    · obtain ⟨w, z⟩ := I.cell y c h1
      exact ⟨w, z.keeps kp⟩
    · exact ⟨_, z⟩
  · show H cenv.locals = none
    rw [hL]; exact I.hok.fresh (Nat.le_refl _)
  · have e : cenv.cells.lookup y = some c := e
    rcases mem e with ⟨h1, _⟩ | ⟨h1, _⟩
    · exact I.freeC y c h1
    · exact I.hok.fresh (Nat.le_of_succ_le h1)
  · exact absurd (show p ∈ ([] : List (Addr × Obj)) ++ [] from hp) (by simp)
theorem app_ok {E : Value → Shared → Prop} {D : Addr} {xs : List V} {y : V} {v : Value} {Q : Value → Shared → Prop} (I : Inv X pins σ H s) (hD : H D = some (.lst xs)) (hz : xs.length < sizeLine) (r : RelV y v)
    (h : ∀ s', Inv X pins σ (upd H D (.lst (xs ++ [y]))) s' → Q .none s') : wpAny (model X.prog X.w) X.A (call (.builtin "list.append") [.ref D, v]) Q E s := by
  obtain ⟨hz', its, n, ri, e⟩ := I.hok D _ hD
  have hl := ri.length
  refine append_at (hsz := by rw [List.size_toArray]; omega) e fun h' sb ho' => ?_
  refine h { s with heap := h' } (I.write (t' := s.toks) (by rw [hD]; trivial) (.inl rfl) (fun b u hb q => (sb.2 b hb).trans q) ⟨_, ho'⟩ ⟨by rw [List.length_append]; exact hz, its ++ [v], n + 1, ri.append (.cons r .nil), ?_⟩)
  rw [ho']
  simp
def PTs (X : Cx) (ifs : List Expr) (t : TT) : Prop :=
  ∀ (pins : List (Addr × Obj)) (s : Shared) (σ : St) (H : Hp) (Q : Bool → Hp → Prop), Inv X pins σ H s → t σ H Q →
    wpAny (model X.prog X.w) X.A (forIn ifs true fun c r => if r = true then do let ok ← isTrue c X.env (eval c X.env); pure (ForInStep.yield ok) else pure (ForInStep.yield r)) (TP X pins σ Q) X.xe s
def tYes : TT := fun _ H Q => Q true H
theorem pts_nil : PTs X [] tYes := fun _ _ _ H _ I h => wpAny_tests_nil ⟨H, I, h⟩
theorem pts_one {c : Expr} {t : TT} (h : PT X c t) : PTs X [c] t := fun pins s σ H Q I hw => wpAny_tests_one (h pins s σ H Q I hw)
end
theorem thnF {α : Type} {t : Sem α} {Q Q' : α → Shared → Prop} {M : Model} {A : Around} {E : Value → Shared → Prop} {s : Shared} (h : wpAny M A t Q (fun _ _ => False) s) (hQ : ∀ a s, Q a s → Q' a s) : wpAny M A t Q' E s := wpAny_mono h hQ fun _ _ z => False.elim z
theorem compLoop_any {prog : Program} {w : World} {A : Around} {R : Result → Shared → Prop} {s : Shared} {elt target iter : Expr} {ifs : List Expr} {scope : Scope} {pos : Pos} {it acc : Value} {env : Env} (I : Nat → Shared → Prop)
    (turn : ∀ n s, I n s → wpAny (model prog w) A (pyNext it) (fun r s₁ => match r with
      | none => R (.ok .next) s₁
      | some v => wpAny (model prog w) A (letOwnedTupleGo target it v) (fun _ s₁' => wpAny (model prog w) A (assign target env v) (fun _ s₂ =>
          wpAny (model prog w) A (forIn ifs true fun c r => if r = true then do let ok ← isTrue c env (eval c env); pure (ForInStep.yield ok) else pure (ForInStep.yield r)) (fun ok s₃ =>
            if ok = true then wpAny (model prog w) A (eval elt env) (fun x s₄ =>
              wpAny (model prog w) A (call (.builtin "list.append") [acc, x]) (fun _ s₅ => ∃ m, m < n ∧ I m s₅) (notedBy (model prog w) A env fun e s' => R (.error e) s') s₄) (notedBy (model prog w) A env fun e s' => R (.error e) s') s₃
            else ∃ m, m < n ∧ I m s₃) (notedBy (model prog w) A env fun e s' => R (.error e) s') s₂) (notedBy (model prog w) A env fun e s' => R (.error e) s') s₁') (notedBy (model prog w) A env fun e s' => R (.error e) s') s₁) (notedBy (model prog w) A env fun e s' => R (.error e) s') s)
    (n : Nat) (h : I n s) :
    codeAny (model prog w) A (.compLoop (.ListComp elt [⟨target, iter, ifs, 0⟩] scope pos) 0 it acc env) R s := by
  refine codeAny_loop rfl I (fun n s hI => ?_) n h
  show wpAny _ A ((compTurn (.ListComp elt [⟨target, iter, ifs, 0⟩] scope pos) 0 it acc env).onRaise (fun x => do noteFrame x env; theTreesLotGoes x)) _ _ s
  refine wpAny_noted ?_
  rw [compTurn_list]
  refine wpAny_bind (wpAny_standAt (wpAny_bind (wpAny_mono (turn n s hI) (fun r s₁ h₁ => ?_) fun _ _ h' => h')))
  cases r with
  | none => exact wpAny_pure h₁
  | some v =>
    refine wpAny_bind (wpAny_mono h₁ (fun _ s₁' h₁' => ?_) fun _ _ h' => h')
    refine wpAny_bind (wpAny_mono h₁' (fun _ s₂ h₂ => wpAny_bind (wpAny_mono h₂ (fun ok s₃ h₃ => ?_) fun _ _ h' => h')) fun _ _ h' => h')
    cases ok with
    | false => exact wpAny_pure ⟨rfl, h₃⟩
    | true =>
      exact wpAny_bind (wpAny_bind (wpAny_mono h₃ (fun x s₄ h₄ => wpAny_bind (wpAny_mono h₄ (fun _ s₅ h₅ => wpAny_pure (wpAny_pure ⟨rfl, h₅⟩)) fun _ _ h' => h')) fun _ _ h' => h'))
section
variable {X : Cx}
def tLc (wi : TI) (g : TG) (tt : TT) (te : TE) (vs : List Nat) : TE := fun σ H Q => wi σ H fun J H1 => ∀ D, H1 D = none → ∃ W : Nat → Nat → Hp → Prop, (∃ m, W 0 m (upd H1 D (.lst []))) ∧ ∀ i m H, W i m H →
  (J.stop i H ∧ Q (.ref D) H) ∨ (J.go i H ∧ ∃ Nx : Hp → Prop, (∀ H', Nx H' → ∃ m', m' < m ∧ W (i + 1) m' H') ∧ ∀ x H', J.yld i H x H' → g x (wipe σ vs) H' fun σ2 H2 => wipe σ2 vs = wipe σ vs ∧ tt σ2 H2 fun b H3 =>
    if b = true then te σ2 H3 fun y H4 => ∃ acc, H4 D = some (.lst acc) ∧ acc.length < sizeLine ∧ Nx (upd H4 D (.lst (acc ++ [y]))) else Nx H3)
theorem lc_core {pins : List (Addr × Obj)} {s : Shared} {σ : St} {H : Hp} {Q : VK} {elt tg iter : Expr} {ifs : List Expr} {scope : Scope} {own : List (Str × Nat)} {pos pos' : Pos} {wi : TI} {g : TG} {tt : TT} {te : TE} {use : Option (Value → Sem Unit)} {Qf : Value → Shared → Prop}
    (hc : X.calm = true) (hN : X.N.Nodup) (I : Inv X pins σ H s) (hi : PI X tg iter wi) (ok : BlkOk X.N X.env.scope scope own)
    (hg : ∀ (s : Shared) (H : Hp) (C : Addr) (cl : List (Str × Addr)) (fp : List Addr), PG (X.blk s H scope (compEnvC scope cl C X.env) fp) tg g) (ht : ∀ (s : Shared) (H : Hp) (C : Addr) (cl : List (Str × Addr)) (fp : List Addr), PTs (X.blk s H scope (compEnvC scope cl C X.env) fp) ifs tt)
    (he : ∀ (s : Shared) (H : Hp) (C : Addr) (cl : List (Str × Addr)) (fp : List Addr), PE (X.blk s H scope (compEnvC scope cl C X.env) fp) elt te) (hs : ∀ x, foldedSetIterable iter X.env x = pure x)
    (h : tLc wi g tt te (own.map (·.2)) σ H Q)
    (hRR : ∀ D C s' m H', Inv X pins σ H' s' → Q (.ref D) H' → s'.heap.Ns C m → FpOk X pins H' C → compPost (model X.prog X.w) X.A X.xe use Qf (.ref D) C (.ok .next) s') :
    wpAny (model X.prog X.w) X.A (comprehension (.ListComp elt [⟨tg, iter, ifs, 0⟩] scope pos) scope X.env pos' (newList []) false (eval iter X.env) use) Qf X.xe s := by
  have hfree : ∀ y ∈ scope.names, y.2 = .free → ∃ c, X.env.cells.lookup y.1 = some c := fun y hy e => by
    rcases ok.free y hy e with k | k
    · exact I.ok.has _ (.inl k)
    · exact I.ok.has _ (.inr k)
  refine wpAny_comprehension_free (use := use) rfl hs (closure_ok hfree) ok.kind (fun y hy e => by rw [ok.uniq y hy, e])
    (thn (hi pins s σ H _ I h) fun xv s1 hx => thn hx fun itv s2 h2 => ?_)
  obtain ⟨it, fp, tn, J, H2, e, I2, T, st2, f2, q⟩ := h2
  subst e
  refine wpAny_newObj_type (newEnv_comp ?_) (by show 0 ≤ sizeLine; decide)
  generalize hD : s2.heap.objs.size = D
  have hDn : H2 D = none := I2.hok.fresh (Nat.le_of_eq hD)
  obtain ⟨W, ⟨m0, w0⟩, turn⟩ := q D hDn
  -- the new list
  generalize hs3 : ({ s2 with heap := s2.heap.push { cls := .type "list", data := .seq ([] : List Value).toArray } } : Shared) = s3
  have I3 : Inv X pins σ (upd H2 D (.lst [])) s3 := by
    rw [← hs3]
    refine I2.laid (t' := s2.toks) (fun b o e => Heap.get?_push_of_some _ e) (Nat.le_of_eq hD) ⟨Nat.zero_le _, [], 0, .nil, ?_⟩
    rw [← hD]
    exact Heap.get?_push_size _ rfl
  have h3 : s3.heap = s2.heap.push { cls := .type "list", data := .seq ([] : List Value).toArray } := by rw [← hs3]
  have sz : ∀ b ∈ fp, b < s2.heap.objs.size := fun b hb => by
    obtain ⟨o, e, _⟩ := T.obj _ _ st2 b hb
    exact Heap.lt_size e
  have f3 : ∀ b ∈ fp, FpOk X pins (upd H2 D (.lst [])) b ∧ b < s3.heap.objs.size := fun b hb => by
    have hlt := sz b hb
    refine ⟨⟨?_, (f2 b hb).2⟩, by rw [h3, Heap.size_push]; exact Nat.lt_succ_of_lt hlt⟩
    rw [upd_ne (by rw [← hD]; exact Nat.ne_of_lt hlt)]
    exact (f2 b hb).1
  have st3 : tn 0 s3.heap := T.keep _ _ _ st2 fun b _ o e => by rw [h3]; exact Heap.get?_push_of_some _ e
  have I4 := block_start I3 ok hN f3
  have pg := hg s3 (upd H2 D (.lst [])) s3.heap.objs.size (cellsFrom (s3.heap.objs.size + 1) scope.names (cloFrom X.env.cells scope.names [])) fp
  have pt := ht s3 (upd H2 D (.lst [])) s3.heap.objs.size (cellsFrom (s3.heap.objs.size + 1) scope.names (cloFrom X.env.cells scope.names [])) fp
  have pe := he s3 (upd H2 D (.lst [])) s3.heap.objs.size (cellsFrom (s3.heap.objs.size + 1) scope.names (cloFrom X.env.cells scope.names [])) fp
  show codeAny _ _ (.compStart (.ListComp elt [⟨tg, iter, ifs, 0⟩] scope pos) 0 (.ref it) (.ref D) (compEnvC scope (cellsFrom (s3.heap.objs.size + 1) scope.names (cloFrom X.env.cells scope.names [])) s3.heap.objs.size X.env)) (compPost (model X.prog X.w) X.A X.xe use Qf (.ref D) s3.heap.objs.size) { s3 with heap := pushCells (s3.heap.push { cls := .type "dict", data := .dict #[] }) scope.names }
  have nfp : ∀ b ∈ fp, (upd H2 D (.lst [])) b = none := fun b hb => (f3 b hb).1.1
  generalize hce : compEnvC scope (cellsFrom (s3.heap.objs.size + 1) scope.names (cloFrom X.env.cells scope.names [])) s3.heap.objs.size X.env = ce at I4 pg pt pe ⊢
  have cL : ce.locals = s3.heap.objs.size := by subst hce; rfl
  generalize hH3 : upd H2 D (.lst []) = H3 at I3 I4 pg pt pe w0 nfp f3
  generalize hs4 : ({ s3 with heap := pushCells (s3.heap.push { cls := .type "dict", data := .dict #[] }) scope.names } : Shared) = s4 at I4 ⊢
  have st4 : tn 0 s4.heap := T.keep _ _ _ st3 fun b _ o e => by rw [← hs4]; exact pushCells_keeps _ _ _ _ (Heap.get?_push_of_some _ e)
  have stat : ∀ {σ' : St} {H' : Hp} {s' : Shared}, Inv (X.blk s3 H3 scope ce fp) [] σ' H' s' → (∀ b ∈ fp, H' b = none) → ∀ b ∈ fp, FpOk (X.blk s3 H3 scope ce fp) [] H' b := fun {σ' H' s'} I' hn b hb =>
    ⟨hn b hb, (I'.ok.exf b hb).1, I'.ok.exfs b hb, .inl hb, fun x c e => (I'.ok.exf b hb).2 x c e, fun p hp => absurd (show p ∈ ([] : List (Addr × Obj)) ++ [] from hp) (by simp)⟩
  have loop : codeAny (model X.prog X.w) X.A (.compLoop (.ListComp elt [⟨tg, iter, ifs, 0⟩] scope pos) 0 (.ref it) (.ref D) ce) (compPost (model X.prog X.w) X.A X.xe use Qf (.ref D) s3.heap.objs.size) s4 := by
    refine compLoop_any (fun n s' => ∃ i H', Inv (X.blk s3 H3 scope ce fp) [] (wipe σ (own.map (·.2))) H' s' ∧ tn i s'.heap ∧ (∀ b ∈ fp, H' b = none) ∧ W i n H') ?_ m0 ⟨0, H3, I4, st4, nfp, w0⟩
    rintro n s5 ⟨i, H5, I5, st5, n5, w5⟩
    rcases turn i n H5 w5 with ⟨stop, qq⟩ | ⟨go, Nx, hNx, step⟩
    · have td := T.done (X.blk s3 H3 scope ce fp) rfl rfl rfl hc i [] s5 _ H5 (fun _ _ => False) I5 (stat I5 n5) st5 stop
      refine thnF td fun r s6 ⟨hr, I6⟩ => ?_
      subst hr
      -- back in the def's context
      have I7 : Inv X pins σ H5 s6 := I3.call' (ch := fp) I6.os I6.base I6.hok I6.bare fun b hb => ⟨(f3 b hb).1.2.2.2.1, (f3 b hb).1.2.1, (f3 b hb).1.2.2.2.2.1, (f3 b hb).1.2.2.2.2.2⟩
      have nC : H5 s3.heap.objs.size = none := by
        have z : H5 ce.locals = none := I6.free
        rw [cL] at z
        exact z
      obtain ⟨m, hn, _⟩ := I6.loc
      have hn : s6.heap.Ns ce.locals m := hn
      rw [cL] at hn
      exact hRR D s3.heap.objs.size s6 m H5 I7 qq hn (I3.fpOk (Nat.le_refl _) nC)
    · have ti := T.item (X.blk s3 H3 scope ce fp) rfl rfl rfl hc i [] s5 _ H5 (fun _ _ => False) I5 (stat I5 n5) st5 go
      refine thnF ti fun r s6 ⟨u, hr, h6⟩ => ?_
      subst hr
      refine thnF h6 fun _ s7 ⟨x, H7, I7, r7, y7, st7, n7⟩ => ?_
      have I7' := I7.pinned (stat I7 n7) (T.obj _ _ st7)
      refine thnF (pg _ s7 _ H7 x u _ I7' r7 (step x H7 y7)) fun _ s8 ⟨σ8, H8, I8, hw8, q8⟩ => ?_
      refine thnF (pt _ s8 σ8 H8 _ I8 q8) fun b s9 ⟨H9, I9, q9⟩ => ?_
      -- the turn's end
      have fin : ∀ {s' : Shared} {H' : Hp}, Inv (X.blk s3 H3 scope ce fp) ([] ++ pinsAt fp s7.heap) σ8 H' s' → Nx H' → ∃ m, m < n ∧ ∃ i H', Inv (X.blk s3 H3 scope ce fp) [] (wipe σ (own.map (·.2))) H' s' ∧ tn i s'.heap ∧ (∀ b ∈ fp, H' b = none) ∧ W i m H' := fun {s' H'} I' nx => by
        obtain ⟨m', hm, w'⟩ := hNx H' nx
        have pin' : ∀ b ∈ fp, ∀ o, s7.heap.get? b = some o → s'.heap.get? b = some o ∧ H' b = none := fun b hb o e =>
          let z := I'.pin (b, o) (List.mem_append_right _ (List.mem_append_right _ (mem_pinsAt hb e)))
          ⟨z.1, z.2.1⟩
        have hl : (wipe σ (own.map (·.2))).length = σ8.length := by rw [← hw8, wipe_length]
        refine ⟨m', hm, i + 1, H', (I'.unpinned (pins := [])).weak hl (fun j v e => ?_), T.keep _ _ _ st7 fun b hb o e => (pin' b hb o e).1, fun b hb => ?_, w'⟩
        · rw [← hw8] at e
          exact (wipe_some e).1
        · obtain ⟨o, e, _⟩ := T.obj _ _ st7 b hb
          exact (pin' b hb o e).2
      cases b with
      | false =>
        simp only [Bool.false_eq_true, if_false] at q9 ⊢
        exact fin I9 q9
      | true =>
        simp only [if_true] at q9 ⊢
        refine thnF (pe _ s9 σ8 H9 _ I9 q9) fun z s10 ⟨yv, H10, I10, r10, acc, hD10, hz10, nx⟩ => ?_
        exact app_ok (X := X.blk s3 H3 scope ce fp) I10 hD10 hz10 r10 fun s11 I11 => fin I11 nx
  exact codeAny_compStart_list loop (T.self X.A 0 _ _ _ st4 loop)
theorem pe_lc {elt tg iter : Expr} {ifs : List Expr} {scope : Scope} {own : List (Str × Nat)} {pos : Pos} {wi : TI} {g : TG} {tt : TT} {te : TE} (hc : X.calm = true) (hN : X.N.Nodup) (hi : PI X tg iter wi) (ok : BlkOk X.N X.env.scope scope own)
    (hg : ∀ (s : Shared) (H : Hp) (C : Addr) (cl : List (Str × Addr)) (fp : List Addr), PG (X.blk s H scope (compEnvC scope cl C X.env) fp) tg g) (ht : ∀ (s : Shared) (H : Hp) (C : Addr) (cl : List (Str × Addr)) (fp : List Addr), PTs (X.blk s H scope (compEnvC scope cl C X.env) fp) ifs tt)
    (he : ∀ (s : Shared) (H : Hp) (C : Addr) (cl : List (Str × Addr)) (fp : List Addr), PE (X.blk s H scope (compEnvC scope cl C X.env) fp) elt te) (hs : ∀ x, foldedSetIterable iter X.env x = pure x := by intro _; rfl) :
    PE X (.ListComp elt [⟨tg, iter, ifs, 0⟩] scope pos) (tLc wi g tt te (own.map (·.2))) := by
  intro pins s σ H Q I h
  rw [eval_ListComp]
  refine lc_core hc hN I hi ok hg ht he hs h fun D C s' m H' I' q hn f => ⟨m, hn, fun h'' sb => ?_⟩
  obtain ⟨f0, f1, f2, f3, f4, f5⟩ := f
  exact ⟨.ref D, H', I'.turned (t' := s'.toks) (fun b o hb e => (sb.2 b hb).trans e) f0 f1 f3 f4 f5, rfl, q⟩
theorem ps_setLc {i : Nat} {y : Str} {py : Pos} {elt tg iter : Expr} {ifs : List Expr} {scope : Scope} {own : List (Str × Nat)} {pos spos : Pos} {wi : TI} {g : TG} {tt : TT} {te : TE} (hc : X.calm = true) (hN : X.N.Nodup) (hy : X.N[i]? = some y) (hyl : X.env.scope.names.lookup y = some .local)
    (hsw : swapsWith (.ListComp elt [⟨tg, iter, ifs, 0⟩] scope pos) (some (.Name y py)) spos.line X.env = pure true) (hi : PI X tg iter wi) (ok : BlkOk X.N X.env.scope scope own)
    (hg : ∀ (s : Shared) (H : Hp) (C : Addr) (cl : List (Str × Addr)) (fp : List Addr), PG (X.blk s H scope (compEnvC scope cl C X.env) fp) tg g) (ht : ∀ (s : Shared) (H : Hp) (C : Addr) (cl : List (Str × Addr)) (fp : List Addr), PTs (X.blk s H scope (compEnvC scope cl C X.env) fp) ifs tt)
    (he : ∀ (s : Shared) (H : Hp) (C : Addr) (cl : List (Str × Addr)) (fp : List Addr), PE (X.blk s H scope (compEnvC scope cl C X.env) fp) elt te) (hs : ∀ x, foldedSetIterable iter X.env x = pure x := by intro _; rfl) :
    PS X (.Assign [.Name y py] (.ListComp elt [⟨tg, iter, ifs, 0⟩] scope pos) spos) (tAsg (tLc wi g tt te (own.map (·.2))) (gName i)) := by
  intro pins s σ H D I h
  rw [exec_Assign_Name_used _ _ _ _ hsw]
  refine wpAny_bind (wpAny_standAt (wpAny_bind ?_))
  show wpAny _ X.A (do let _ ← comprehension (.ListComp elt [⟨tg, iter, ifs, 0⟩] scope pos) scope X.env (firstIterPos [⟨tg, iter, ifs, 0⟩] pos) (newList []) false (eval iter X.env) (some (assign (.Name y py) X.env))) _ _ s
  have h : tLc wi g tt te (own.map (·.2)) σ H (fun x H1 => gName i x σ H1 D.nx) := h
  refine wpAny_bind (thn (lc_core (Qf := fun _ s' => SP X pins D .next s') hc hN I hi ok hg ht he hs h fun L C s' m H' I' q hn f => ?_) fun _ s' hq => wpAny_pure (wpAny_pure hq))
  show wpAny _ _ (assign (.Name y py) X.env (.ref L)) _ _ _
  refine wpAny_assign_Name (store_ok2 (v := V.ref L) I' hN hy (.inl hyl) rfl (fun s2 I2 ⟨a, sb, ha⟩ => ?_) (.inr hyl))
  obtain ⟨f0, f1, f2, f3, f4, f5⟩ := f
  have haC : C ≠ a := by
    rcases ha with z | z
    · rw [z]; exact f1
    · exact fun e => f4 y a z e.symm
  refine ⟨m, hn.sameBut sb haC, fun h3 sb3 => ?_⟩
  exact ⟨_, H', I2.turned (t' := s2.toks) (fun b o hb e => (sb3.2 b hb).trans e) f0 f1 f3 f4 f5, q⟩
theorem sw_true {elt : Expr} {gs : List Comprehension} {scope : Scope} {pos py : Pos} {y : Str} {l : Nat} {env : Env} (hk : env.scope.kind = .function) (hy : env.scope.names.lookup y = some .local) (hl : (py.line == pos.line) = true)
    (ha : (scope.names.any fun (n, k) => n == y && (k == .local || k == .cell)) = false) : swapsWith (.ListComp elt gs scope pos) (some (.Name y py)) l env = pure true := by
  have ky : env.kindOf y = some .local := hy
  have hb : env.blockKind = .function := by unfold Env.blockKind; rw [hk]; rfl
  unfold swapsWith
  simp only [hb, ky, ha, Expr.pos, hl]
  rfl
end
theorem lc_range {lo : Int} {n : Nat} {g : TG} {tt : TT} {te : TE} {vs : List Nat} {σ : St} {H1 : Hp} {D : Addr} {Qd : Hp → Prop} (Pv : Nat → Hp → Prop) (h0 : Pv 0 (upd H1 D (.lst [])))
    (hs : ∀ i H, i < n → Pv i H → g (.int (lo + i)) (wipe σ vs) H fun σ2 H2 => wipe σ2 vs = wipe σ vs ∧ tt σ2 H2 fun b H3 =>
      if b = true then te σ2 H3 fun y H4 => ∃ acc, H4 D = some (.lst acc) ∧ acc.length < sizeLine ∧ Pv (i + 1) (upd H4 D (.lst (acc ++ [y]))) else Pv (i + 1) H3) (hd : ∀ H, Pv n H → Qd H) :
    ∃ W : Nat → Nat → Hp → Prop, (∃ m, W 0 m (upd H1 D (.lst []))) ∧ ∀ i m H, W i m H →
      ((Itr lo n).stop i H ∧ Qd H) ∨ ((Itr lo n).go i H ∧ ∃ Nx : Hp → Prop, (∀ H', Nx H' → ∃ m', m' < m ∧ W (i + 1) m' H') ∧ ∀ x H', (Itr lo n).yld i H x H' → g x (wipe σ vs) H' fun σ2 H2 => wipe σ2 vs = wipe σ vs ∧ tt σ2 H2 fun b H3 =>
        if b = true then te σ2 H3 fun y H4 => ∃ acc, H4 D = some (.lst acc) ∧ acc.length < sizeLine ∧ Nx (upd H4 D (.lst (acc ++ [y]))) else Nx H3) := by
  refine ⟨fun i m H => m = n - i ∧ i ≤ n ∧ Pv i H, ⟨n, by simp, Nat.zero_le _, h0⟩, ?_⟩
  rintro i m H ⟨rfl, hi, p⟩
  by_cases hlt : i < n
  · refine .inr ⟨hlt, Pv (i + 1), fun H' p' => ⟨n - (i + 1), by omega, rfl, hlt, p'⟩, fun x H' y => ?_⟩
    obtain ⟨e, y⟩ := y
    subst e y
    exact hs i _ hlt p
  · have e : i = n := by omega
    subst e
    exact .inl ⟨Nat.le_refl _, hd H p⟩
theorem lc_list {K : PySem.W.Frag} {a : Addr} {xs : List V} {g : TG} {tt : TT} {te : TE} {vs : List Nat} {σ : St} {H1 : Hp} {D : Addr} {Qd : Hp → Prop} (Pv : Nat → Hp → Prop) (h0 : Pv 0 (upd H1 D (.lst []))) (hl : ∀ i H, i ≤ xs.length → Pv i H → SqL K H a xs)
    (hs : ∀ i x H, xs[i]? = some x → Pv i H → g x (wipe σ vs) H fun σ2 H2 => wipe σ2 vs = wipe σ vs ∧ tt σ2 H2 fun b H3 =>
      if b = true then te σ2 H3 fun y H4 => ∃ acc, H4 D = some (.lst acc) ∧ acc.length < sizeLine ∧ Pv (i + 1) (upd H4 D (.lst (acc ++ [y]))) else Pv (i + 1) H3) (hd : ∀ H, Pv xs.length H → Qd H) :
    ∃ W : Nat → Nat → Hp → Prop, (∃ m, W 0 m (upd H1 D (.lst []))) ∧ ∀ i m H, W i m H →
      ((Itl K a).stop i H ∧ Qd H) ∨ ((Itl K a).go i H ∧ ∃ Nx : Hp → Prop, (∀ H', Nx H' → ∃ m', m' < m ∧ W (i + 1) m' H') ∧ ∀ x H', (Itl K a).yld i H x H' → g x (wipe σ vs) H' fun σ2 H2 => wipe σ2 vs = wipe σ vs ∧ tt σ2 H2 fun b H3 =>
        if b = true then te σ2 H3 fun y H4 => ∃ acc, H4 D = some (.lst acc) ∧ acc.length < sizeLine ∧ Nx (upd H4 D (.lst (acc ++ [y]))) else Nx H3) := by
  refine ⟨fun i m H => m = xs.length - i ∧ i ≤ xs.length ∧ Pv i H, ⟨xs.length, by simp, Nat.zero_le _, h0⟩, ?_⟩
  rintro i m H ⟨rfl, hi, p⟩
  have q := hl i H hi p
  by_cases hlt : i < xs.length
  · refine .inr ⟨⟨xs, xs[i], q, by simp [hlt]⟩, Pv (i + 1), fun H' p' => ⟨xs.length - (i + 1), by omega, rfl, hlt, p'⟩, fun x H' y => ?_⟩
    obtain ⟨e, y⟩ := y
    subst e
    exact hs i x _ (y xs q) p
  · have e : i = xs.length := by omega
    subst e
    exact .inl ⟨⟨xs, q, Nat.le_refl _⟩, hd H p⟩
def blkC (N : List Str) (sc scope : Scope) (own : List (Str × Nat)) : Bool :=
  (match scope.kind with | .function => true | _ => false) && (scope.names.all fun y => decide (scope.names.lookup y.1 = some y.2)) && (own.all fun p => decide (N[p.2]? = some p.1)) &&
    (scope.names.all fun y => match y.2 with
      | .free => (match sc.names.lookup y.1 with | some .cell => true | some .free => true | _ => false)
      | .local => decide (y.1 ∈ own.map (·.1)) || decide (y.1 ∉ N)
      | .cell => decide (y.1 ∈ own.map (·.1)) || decide (y.1 ∉ N)
      | _ => true)
theorem blkOk_by {N : List Str} {sc scope : Scope} {own : List (Str × Nat)} (h : blkC N sc scope own = true) : BlkOk N sc scope own := by
  unfold blkC at h
  simp only [Bool.and_eq_true, List.all_eq_true, decide_eq_true_eq] at h
  obtain ⟨⟨⟨h1, h2⟩, h3⟩, h4⟩ := h
  refine ⟨?_, h2, h3, fun y hy e => ?_, fun y hy e => ?_⟩
  · split at h1
    · assumption
    · cases h1
  · have q := h4 y hy
    simp only [e] at q
    split at q <;> first | exact .inl (by assumption) | exact .inr (by assumption) | cases q
  · have q := h4 y hy
    rcases e with e | e <;> (simp only [e, Bool.or_eq_true, decide_eq_true_eq] at q; exact q)
end L2
namespace L2
open PySem PySem.Spec PyProof.Rows
section
variable {κ : Type} [DecidableEq κ]
def valV (kvs : List (κ × V)) (k : κ) : Option V := (kvs.find? fun kv => decide (kv.1 = k)).map (·.2)
def putK (kvs : List (κ × V)) (k : κ) (v : V) : List (κ × V) :=
  if (kvs.any fun kv => decide (kv.1 = k)) = true then kvs.map (fun kv => if kv.1 = k then (kv.1, v) else kv) else kvs ++ [(k, v)]
def dropK (kvs : List (κ × V)) (k : κ) : List (κ × V) := kvs.filter fun kv => decide (kv.1 ≠ k)
theorem valV_pos {p : κ × V} {r : List (κ × V)} {k : κ} (e : p.1 = k) : valV (p :: r) k = some p.2 := by simp [valV, List.find?_cons, e]
theorem valV_neg {p : κ × V} {r : List (κ × V)} {k : κ} (e : ¬ p.1 = k) : valV (p :: r) k = valV r k := by simp [valV, List.find?_cons, e]
theorem valV_any (k : κ) : ∀ kvs : List (κ × V), (kvs.any fun kv => decide (kv.1 = k)) = (valV kvs k).isSome
  | [] => rfl
  | p :: r => by
    rw [List.any_cons]
    by_cases e : p.1 = k
    · simp only [valV_pos e, decide_eq_true e, Bool.true_or, Option.isSome_some]
    · rw [valV_neg e, decide_eq_false e, Bool.false_or]; exact valV_any k r
theorem RelO.isSome_eq {o : Option V} {u : Option Value} (r : RelO o u) : o.isSome = u.isSome := by
  cases o with
  | none => cases u with
    | none => rfl
    | some _ => exact (show False from r).elim
  | some _ => cases u with
    | none => exact (show False from r).elim
    | some _ => rfl
theorem RelO.getD {o : Option V} {u : Option Value} {d : V} {d' : Value} (r : RelO o u) (rd : RelV d d') : RelV (o.getD d) (u.getD d') := by
  cases o with
  | none => cases u with
    | none => exact rd
    | some _ => exact (show False from r).elim
  | some _ => cases u with
    | none => exact (show False from r).elim
    | some _ => exact r
theorem KV.val {kvs : List (κ × V)} {vs : List (κ × Value)} (r : KV kvs vs) (k : κ) : RelO (valV kvs k) (valueAt vs k) := by
  unfold KV at r
  induction r with
  | nil => exact True.intro
  | @cons p q ps qs h t ih =>
    obtain ⟨h1, h2⟩ := h
    by_cases e : p.1 = k
    · have e' : q.1 = k := h1.symm.trans e
      have b : valueAt (q :: qs) k = some q.2 := by simp [valueAt, List.find?_cons, e']
      rw [valV_pos e, b]; exact h2
    · have e' : ¬ q.1 = k := fun z => e (h1.trans z)
      have b : valueAt (q :: qs) k = valueAt qs k := by simp [valueAt, List.find?_cons, e']
      rw [valV_neg e, b]; exact ih
theorem KV.any {kvs : List (κ × V)} {vs : List (κ × Value)} (r : KV kvs vs) (k : κ) : (kvs.any fun kv => decide (kv.1 = k)) = vs.any fun kv => decide (kv.1 = k) := by
  unfold KV at r
  induction r with
  | nil => rfl
  | cons h t ih => rw [List.any_cons, List.any_cons, ih, h.1]
theorem KV.repl {kvs : List (κ × V)} {vs : List (κ × Value)} (r : KV kvs vs) (k : κ) {y : V} {u : Value} (ry : RelV y u) :
    KV (kvs.map fun kv => if kv.1 = k then (kv.1, y) else kv) (vs.map fun kv => if kv.1 = k then (kv.1, u) else kv) := by
  unfold KV at r ⊢
  induction r with
  | nil => exact .nil
  | @cons p q ps qs h t ih =>
    rw [List.map_cons, List.map_cons]
    refine .cons ?_ ih
    obtain ⟨h1, h2⟩ := h
    by_cases e : p.1 = k
    · rw [if_pos e, if_pos (h1.symm.trans e)]; exact ⟨h1, ry⟩
    · rw [if_neg e, if_neg (fun z => e (h1.trans z))]; exact ⟨h1, h2⟩
theorem KV.put {kvs : List (κ × V)} {vs : List (κ × Value)} (r : KV kvs vs) (k : κ) {y : V} {u : Value} (ry : RelV y u) : KV (putK kvs k y) (stored vs k u) := by
  unfold putK stored
  rw [r.any k]
  by_cases e : (vs.any fun kv => decide (kv.1 = k)) = true
  · rw [if_pos e, if_pos e]; exact r.repl k ry
  · rw [if_neg e, if_neg e]; exact Paired.snoc r ⟨rfl, ry⟩
theorem KV.drop {kvs : List (κ × V)} {vs : List (κ × Value)} (r : KV kvs vs) (k : κ) : KV (dropK kvs k) (without vs k) := by
  unfold KV at r ⊢
  unfold dropK without
  induction r with
  | nil => exact .nil
  | @cons p q ps qs h t ih =>
    obtain ⟨h1, h2⟩ := h
    rw [List.filter_cons, List.filter_cons]
    by_cases e : p.1 = k
    · have a : ¬ decide (p.1 ≠ k) = true := by simp [e]
      have b : ¬ decide (q.1 ≠ k) = true := by simp [h1.symm.trans e]
      rw [if_neg a, if_neg b]; exact ih
    · have e' : ¬ q.1 = k := fun z => e (h1.trans z)
      have a : decide (p.1 ≠ k) = true := by simp [e]
      have b : decide (q.1 ≠ k) = true := by simp [e']
      rw [if_pos a, if_pos b]; exact .cons ⟨h1, h2⟩ ih
theorem KV.keys {kvs : List (κ × V)} {vs : List (κ × Value)} (r : KV kvs vs) : kvs.map (·.1) = vs.map (·.1) := by
  unfold KV at r
  induction r with
  | nil => rfl
  | cons h t ih => rw [List.map_cons, List.map_cons, ih, h.1]
theorem KV.length {kvs : List (κ × V)} {vs : List (κ × Value)} (r : KV kvs vs) : kvs.length = vs.length := Paired.length r
end
abbrev KT (H : Hp) : List (List Key × V) → List (List Key × Addr × Value) → Prop := Paired fun p q => p.1 = q.1 ∧ H q.2.1 = some (.tup (p.1.map kV)) ∧ RelV p.2 q.2.2
theorem KT.val {H : Hp} {kvs : List (List Key × V)} {xs : List (List Key × Addr × Value)} (r : KT H kvs xs) (k : List Key) : RelO (valV kvs k) ((atKey xs k).map (·.2)) := by
  induction r with
  | nil => exact True.intro
  | @cons p q ps qs h t ih =>
    obtain ⟨h1, _, h2⟩ := h
    by_cases e : p.1 = k
    · have e' : q.1 = k := h1.symm.trans e
      have b : atKey (q :: qs) k = some q.2 := by simp [atKey, List.find?_cons, e']
      rw [valV_pos e, b]; exact h2
    · have e' : ¬ q.1 = k := fun z => e (h1.trans z)
      have b : atKey (q :: qs) k = atKey qs k := by simp [atKey, List.find?_cons, e']
      rw [valV_neg e, b]; exact ih
theorem KT.repl {H : Hp} {kvs : List (List Key × V)} {xs : List (List Key × Addr × Value)} (r : KT H kvs xs) (k : List Key) {y : V} {u : Value} (ry : RelV y u) :
    KT H (kvs.map fun kv => if kv.1 = k then (kv.1, y) else kv) (xs.map (putAt k u)) := by
  induction r with
  | nil => exact .nil
  | @cons p q ps qs h t ih =>
    rw [List.map_cons, List.map_cons]
    refine .cons ?_ ih
    obtain ⟨h1, h2, h3⟩ := h
    unfold putAt
    by_cases e : p.1 = k
    · rw [if_pos e, if_pos (h1.symm.trans e)]; exact ⟨h1, h2, ry⟩
    · rw [if_neg e, if_neg (fun z => e (h1.trans z))]; exact ⟨h1, h2, h3⟩
theorem KT.put {H : Hp} {kvs : List (List Key × V)} {xs : List (List Key × Addr × Value)} (r : KT H kvs xs) (k : List Key) {b : Addr} {y : V} {u : Value} (hb : H b = some (.tup (k.map kV))) (ry : RelV y u) :
    KT H (putK kvs k y) (storedH xs k b u) := by
  have e : (kvs.any fun kv => decide (kv.1 = k)) = (atKey xs k).isSome := by
    rw [valV_any, (r.val k).isSome_eq, Option.isSome_map]
  unfold putK storedH
  rw [e]
  by_cases q : (atKey xs k).isSome = true
  · rw [if_pos q, if_pos q]; exact r.repl k ry
  · rw [if_neg q, if_neg q]; exact Paired.snoc r ⟨rfl, hb, ry⟩
theorem KT.keeps {H H' : Hp} {kvs : List (List Key × V)} {xs : List (List Key × Addr × Value)} (r : KT H kvs xs) (ht : ∀ b ys, H b = some (.tup ys) → H' b = some (.tup ys)) : KT H' kvs xs :=
  Paired.mapP r fun _ _ z => ⟨z.1, ht _ _ z.2.1, z.2.2⟩
def DGet (H : Hp) (a : Addr) (y : V) (r : Option V) : Prop :=
  (∃ kvs k, Rd H a (.dK kvs) ∧ y = kV k ∧ r = valV kvs k) ∨ ∃ kvs k b, Rd H a (.dT kvs) ∧ y = .ref b ∧ H b = some (.tup (k.map kV)) ∧ r = valV kvs k
def DPut (H : Hp) (a : Addr) (y v : V) (H' : Hp) : Prop :=
  (∃ kvs k, H a = some (.dK kvs) ∧ y = kV k ∧ kvs.length < sizeLine ∧ H' = upd H a (.dK (putK kvs k v))) ∨
  ∃ kvs k b, H a = some (.dT kvs) ∧ y = .ref b ∧ H b = some (.tup (k.map kV)) ∧ kvs.length < sizeLine ∧ H' = upd H a (.dT (putK kvs k v))
theorem DGet.k {H : Hp} {a : Addr} {kvs : List (Key × V)} {k : Key} (e : H a = some (.dK kvs)) : DGet H a (kV k) (valV kvs k) := .inl ⟨kvs, k, .inl e, rfl, rfl⟩
theorem DGet.t {H : Hp} {a b : Addr} {kvs : List (List Key × V)} {k : List Key} (e : H a = some (.dT kvs)) (eb : H b = some (.tup (k.map kV))) : DGet H a (.ref b) (valV kvs k) := .inr ⟨kvs, k, b, .inl e, rfl, eb, rfl⟩
theorem DPut.k {H : Hp} {a : Addr} {kvs : List (Key × V)} {k : Key} {v : V} (e : H a = some (.dK kvs)) (hl : kvs.length < sizeLine) : DPut H a (kV k) v (upd H a (.dK (putK kvs k v))) := .inl ⟨kvs, k, e, rfl, hl, rfl⟩
theorem DPut.t {H : Hp} {a b : Addr} {kvs : List (List Key × V)} {k : List Key} {v : V} (e : H a = some (.dT kvs)) (eb : H b = some (.tup (k.map kV))) (hl : kvs.length < sizeLine) :
    DPut H a (.ref b) v (upd H a (.dT (putK kvs k v))) := .inr ⟨kvs, k, b, e, rfl, eb, hl, rfl⟩
def mergeK (kvs more : List (Key × V)) : List (Key × V) := more.foldl (fun acc kv => putK acc kv.1 kv.2) kvs
theorem KV.merge : ∀ {more : List (Key × V)} {rs : List (Key × Value)} {kvs : List (Key × V)} {vs : List (Key × Value)}, KV more rs → KV kvs vs → KV (mergeK kvs more) (merged vs rs) := by
  intro more rs kvs vs r
  unfold KV at r
  induction r generalizing kvs vs with
  | nil => intro q; exact q
  | @cons p q ps qs h t ih =>
    intro r0
    have e : KV (putK kvs p.1 p.2) (stored vs q.1 q.2) := by
      have := r0.put p.1 h.2
      rw [← h.1]; exact this
    exact ih e
end L2
namespace L2
open PySem PySem.Spec PyProof.Rows
def RgC (i j c : Int) (n : Nat) : Prop := c ≠ 0 ∧ c.natAbs < 1073741824 ∧ Builtin.Range.small i j c = true ∧ Builtin.Range.rangeSize i j c = n
theorem RgC.neg {i j : Int} (ha : -(2 ^ 62) ≤ i) (ha' : i < 2 ^ 62) (hb : -(2 ^ 62) ≤ j) (hb' : j < 2 ^ 62) : RgC i j (-1) (i - j).toNat :=
  ⟨by decide, by decide, PySem.W.small_down ha ha' hb hb', PySem.W.rangeSize_downNat i j⟩
end L2
section 
end 
section 
namespace TL
open PySem PySem.Builtin PySem.Builtin.Str PySem.StrLaws
abbrev tl (x : Str) : List Nat := x.cps.toList
def pre (S l : List Nat) : Bool := l.take S.length == S
def par (S : List Nat) : List Nat → List Nat → Option (List Nat × List Nat)
  | _, [] => none
  | acc, c :: r => if pre S (c :: r) = true then some (acc, (c :: r).drop S.length) else par S (acc ++ [c]) r
end TL
end 
namespace L2
open PySem PySem.Spec PyProof.Rows
theorem IsPart.raw {v : Value} {o : Option Int} (p : IsPart v o) : ∃ l : Option (Int × Tok), v = partValue l ∧ l.map (·.1) = o := by
  cases p with
  | none => exact ⟨none, rfl, rfl⟩
  | int i t => exact ⟨some (i, t), rfl, rfl⟩
end L2
namespace L2
open PySem PySem.Spec PyProof.Rows
def inClass (s : Stmt) (j : Nat) : Stmt := match s with
  | .ClassDef _ _ _ body _ _ _ _ _ _ _ => body.getD j (.Pass ⟨0, 0, 0, 0⟩)
  | _ => .Pass ⟨0, 0, 0, 0⟩
def defArgs (s : Stmt) : Arguments := match s with
  | .FunctionDef _ a _ _ _ _ _ _ _ _ => a
  | _ => { posonlyargs := [], args := [], vararg := none, kwonlyargs := [], kw_defaults := [], kwarg := none, defaults := [] }
def defBody (s : Stmt) : List Stmt := match s with
  | .FunctionDef _ _ b _ _ _ _ _ _ _ => b
  | _ => []
def defScope (s : Stmt) : Scope := match s with
  | .FunctionDef _ _ _ _ _ _ sc _ _ _ => sc
  | _ => { kind := .function, names := [], isGenerator := false, isCoroutine := false }
abbrev CX0 : CXT := fun _ _ _ _ _ _ => False
abbrev E0 : XK := fun _ _ _ => False
theorem pass0 {X : Cx} : Passes CX0 X E0 := fun _ _ _ _ _ _ _ h => h.elim
structure Fun (K : PySem.W.Frag) (x qual : Str) (st : Stmt) (f : Addr) (fd : FuncData) : Prop where
  ex : ∃ (oc : Value) (od : Option Addr) (kV doc pm : Value) (an : Option Addr) (cdv ct : Value) (osl : Array (Option Value)),
    fd = PySem.W.fnOf x qual (defArgs st) (defBody st) (defScope st) .none kV doc pm an cdv ct ∧ K.lookup f = some ⟨oc, od, .func fd, osl⟩ ∧ PySem.W.codeIn K cdv qual = true
  kp : PySem.W.keepIn K (.ref f) = true
section
variable {P : Program} {w : World} {K : PySem.W.Frag} {mg : Str → Option Value} {base : Heap}
theorem Fun.ok {x qual : Str} {st : Stmt} {f : Addr} {fd : FuncData} {N ps : List Str} {k : Nat} {sp : Sp} (F : Fun K x qual st f fd) (S : FnScope N ps (defScope st)) (len : ∀ vs H Q E, sp vs H Q E → vs.length = ps.length)
    (hbody : ∀ (cdv : Value) (A : Around) (outer : List Env) (s : Shared) (H : Hp) (vs : List V) (Q : VK) (E : XK), Room k (A.deeper (envOfC qual (defScope st) s.heap.objs.size f cdv)) → sp vs H Q E →
      ∃ t, PSs (cxOf CX0 P w K mg base N qual (defScope st) f cdv A outer s H E).nox (defBody st) t ∧ t { nx := fun _ H' => Q .non H', rt := Q } (start N vs) H) : FnOk P w K mg base CX0 (k + 1) f fd ps sp := by
  obtain ⟨oc, od, kV, doc, pm, an, cdv, ct, osl, rfl, lk, hcd⟩ := F.ex
  refine fn_of lk hcd S len fun A outer s H vs Q E hr hsp => ?_
  obtain ⟨t, h, q⟩ := hbody cdv A outer s H vs Q E hr hsp
  exact ⟨t, h.nox, q⟩
theorem Fun.binds {x qual : Str} {st : Stmt} {f : Addr} {fd : FuncData} {ps : List Str} (F : Fun K x qual st f fd)
    (h : ∀ (kV doc pm : Value) (an : Option Addr) (cdv ct : Value) (us : List Value), us.length = ps.length → bindArgs (PySem.W.fnOf x qual (defArgs st) (defBody st) (defScope st) .none kV doc pm an cdv ct) ⟨us, []⟩ = pure (ps.zip us)) : Binds K fd ps [] := by
  obtain ⟨oc, od, kV, doc, pm, an, cdv, ct, osl, rfl, lk, hcd⟩ := F.ex
  exact .all (h kV doc pm an cdv ct)
theorem fun_mk {x qual : Str} {st : Stmt} {f : Addr} {oc : Value} {od an : Option Addr} {osl : Array (Option Value)} {kV doc pm cdv ct : Value} (l : K.lookup f = some ⟨oc, od, .func (PySem.W.fnOf x qual (defArgs st) (defBody st) (defScope st) .none kV doc pm an cdv ct), osl⟩)
    (c : PySem.W.codeIn K cdv qual = true) (k : PySem.W.keepIn K (.ref f) = true) : Fun K x qual st f (PySem.W.fnOf x qual (defArgs st) (defBody st) (defScope st) .none kV doc pm an cdv ct) := ⟨⟨oc, od, kV, doc, pm, an, cdv, ct, osl, rfl, l, c⟩, k⟩
end
section
variable {X : Cx}
theorem pv (i : Nat) {x : Str} {pos : Pos} (hN : X.N[i]? = some x := by rfl) (hv : Vis X.env.scope x := by first | exact Or.inl rfl | exact Or.inr (Or.inl rfl) | exact Or.inr (Or.inr rfl)) (hd : (x == ("__debug__" : Str)) = false := by decide)
    (hcd : (x == ("__classdict__" : Str)) = false := by decide) : PE X (.Name x pos) (tVar i) := pe_var hN hv hd hcd
end
theorem iteF {A B : Prop} (h : B) : if false = true then A else B := by
  rw [if_neg Bool.false_ne_true]
  exact h
theorem iteT {A B : Prop} (h : A) : if true = true then A else B := by
  rw [if_pos rfl]
  exact h
theorem ite2 {c A B : Prop} [Decidable c] (h1 : c → A) (h2 : ¬ c → B) : if c then A else B := by
  by_cases h : c
  · rw [if_pos h]
    exact h1 h
  · rw [if_neg h]
    exact h2 h
def Same (H H' : Hp) : Prop := ∀ b o, H b = some o → H' b = some o
theorem Same.refl (H : Hp) : Same H H := fun _ _ h => h
theorem Same.trans {H H1 H2 : Hp} (a : Same H H1) (b : Same H1 H2) : Same H H2 := fun c o h => b c o (a c o h)
theorem Same.free {H H' : Hp} (e : Same H H') {l : Addr} (h : H' l = Option.none) : H l = Option.none := by
  cases q : H l with
  | none => rfl
  | some o =>
    rw [e l o q] at h
    cases h
theorem Same.seq {K : PySem.W.Frag} {H H' : Hp} {a : Addr} {xs : List V} (e : Same H H') (h : SqL K H a xs) : SqL K H' a xs := by
  rcases h with (h | ⟨o, h⟩) | h
  · exact .inl (.inl (e _ _ h))
  · exact .inl (.inr ⟨o, e _ _ h⟩)
  · exact .inr h
theorem at_of {xs : List V} {z : Int} {j : Nat} {v : V} (e : z = (j : Int)) (h : xs[j]? = some v) : atI xs z = some v := by
  rw [e]
  exact atI_nat h
theorem nd_ix {α : Type} {l : List α} (hN : l.Nodup) {i j : Nat} {x : α} (a : l[i]? = some x) (b : l[j]? = some x) : i = j := by
  obtain ⟨h1, e1⟩ := List.getElem?_eq_some_iff.mp a
  obtain ⟨h2, e2⟩ := List.getElem?_eq_some_iff.mp b
  exact (List.getElem_inj hN).mp (e1.trans e2.symm)
theorem Same.made {H H1 : Hp} {x dx C : Addr} (nx : H x = Option.none) (nd : H dx = Option.none) (k : ∀ b o, (upd (upd H dx (.own x)) x (.ins C dx [])) b = some o → b ≠ x → H1 b = some o) : Same H H1 := fun b o e =>
  k b o (by rw [upd_ne (ne_of_none e nx), upd_ne (ne_of_none e nd)]; exact e) (ne_of_none e nx)
end L2
section
set_option Elab.async false
set_option linter.all false
set_option maxRecDepth 100000
set_option maxHeartbeats 2000000
namespace L2
open PySem PySem.Spec PyProof.Rows
open PySem.W (WData Codec OpenSpec Well WellAll ReadsW ReadsAllW)
mutual
inductive Dw (K : PySem.W.Frag) (H : Hp) : V → WData → Prop
  | non : Dw K H .non .none
  | bl (b : Bool) : Dw K H (.bl b) (.bool b)
  | int (i : Int) : Dw K H (.int i) (.int i)
  | str (x : Str) : Dw K H (.str x) (.str x)
  | byt (b : Array UInt8) : Dw K H (.byt b) (.bytes b.toList)
  | lst {a : Addr} {xs : List V} {ds : List WData} : SqL K H a xs → DwAll K H xs ds → Dw K H (.ref a) (.list ds)
  | tup {a : Addr} {xs : List V} {ds : List WData} : SqT K H a xs → DwAll K H xs ds → Dw K H (.ref a) (.tuple ds)
inductive DwAll (K : PySem.W.Frag) (H : Hp) : List V → List WData → Prop
  | nil : DwAll K H [] []
  | cons {v : V} {vs : List V} {d : WData} {ds : List WData} : Dw K H v d → DwAll K H vs ds → DwAll K H (v :: vs) (d :: ds)
end
theorem dw_ints {K : PySem.W.Frag} {H : Hp} : ∀ ns : List Int, DwAll K H (ns.map V.int) (ns.map WData.int)
  | [] => .nil
  | n :: r => .cons (.int n) (dw_ints r)
theorem ints_dw {K : PySem.W.Frag} {H : Hp} : ∀ (ns : List Int) (xs : List V), DwAll K H xs (ns.map WData.int) → xs = ns.map V.int
  | [], xs, h => by
    cases h
    rfl
  | n :: r, xs, h => by
    cases h with
    | cons h1 h2 =>
      cases h1
      rw [ints_dw r _ h2] <;> rfl
section
variable {P : Program} {w : World} {K : PySem.W.Frag} {H : Hp} {h : Heap} {R : PySem.W.WRecords} {cl : Str → Option Addr}
theorem sqL_at {a : Addr} {xs : List V} (hok : HOk P w H h) (KX : K.In h) (q : SqL K H a xs) : ∃ (its : List Value) (o : Obj) (n : Nat), Vals xs its ∧ h.get? a = some o ∧ o.cls = .type "list" ∧ o.data = .seq its.toArray n := by
  rcases q with q | ⟨o, its, n, e, hc, _, hd, _, hv⟩
  · obtain ⟨_, its, n, hv, e⟩ := (show ObjOk P w H h a (.lst xs) from q.ok hok)
    exact ⟨its, _, n, hv, e, rfl, rfl⟩
  · exact ⟨its.toList, o, n, hv, KX _ _ e, hc, by simp [hd]⟩
theorem sqT_at {a : Addr} {xs : List V} (hok : HOk P w H h) (KX : K.In h) (q : SqT K H a xs) : ∃ (its : List Value) (o : Obj) (n : Nat), Vals xs its ∧ h.get? a = some o ∧ o.cls = .type "tuple" ∧ o.data = .seq its.toArray n := by
  rcases q with q | ⟨o, its, n, e, hc, hd, _, hv⟩
  · obtain ⟨_, its, hv, o, e, hc, n, hd⟩ := (show ObjOk P w H h a (.tup xs) from q.ok hok)
    exact ⟨its, o, n, hv, e, hc, hd⟩
  · exact ⟨its.toList, o, n, hv, KX _ _ e, hc, by simp [hd]⟩
mutual
theorem Dw.reads (hok : HOk P w H h) (KX : K.In h) : ∀ (d : WData) (v : V) (u : Value), Dw K H v d → RelV v u → ∃ as, ReadsW R cl h u d as
  | .none, _, _, x, r => by
    cases x
    cases r
    exact ⟨_, ReadsW.none⟩
  | .bool b, _, _, x, r => by
    cases x
    cases r
    exact ⟨_, ReadsW.bool b⟩
  | .int i, _, _, x, r => by
    cases x
    obtain ⟨t, rfl⟩ := r
    exact ⟨_, ReadsW.int i t⟩
  | .str s, _, _, x, r => by
    cases x
    obtain ⟨t, rfl⟩ := r
    exact ⟨_, ReadsW.str s t⟩
  | .bytes b, _, _, x, r => by
    cases x
    obtain ⟨t, rfl⟩ := r
    exact ⟨_, ReadsW.bytes _ t⟩
  | .list ds, _, _, x, r => by
    cases x with
    | lst hs ha =>
      cases r
      obtain ⟨its, o, n, rv, ho, hc, hd⟩ := sqL_at hok KX hs
      obtain ⟨as, hr⟩ := Dw.readsAll hok KX ds _ its ha rv
      exact ⟨_, ReadsW.list ho hc hd hr⟩
  | .tuple ds, _, _, x, r => by
    cases x with
    | tup hs ha =>
      cases r
      obtain ⟨its, o, n, rv, ho, hc, hd⟩ := sqT_at hok KX hs
      obtain ⟨as, hr⟩ := Dw.readsAll hok KX ds _ its ha rv
      exact ⟨_, ReadsW.tuple ho hc hd hr⟩
  | .float _, _, _, x, _ => by cases x
  | .dict _, _, _, x, _ => by cases x
  | .bytearray _, _, _, x, _ => by cases x
  | .set _, _, _, x, _ => by cases x
  | .frozenset _, _, _, x, _ => by cases x
  | .obj _ _, _, _, x, _ => by cases x
theorem Dw.readsAll (hok : HOk P w H h) (KX : K.In h) : ∀ (ds : List WData) (vs : List V) (us : List Value), DwAll K H vs ds → Vals vs us → ∃ as, ReadsAllW R cl h us ds as
  | [], _, _, x, r => by
    cases x
    cases r
    exact ⟨_, ReadsAllW.nil⟩
  | d :: ds, _, _, x, r => by
    cases x with
    | cons h1 h2 =>
      cases r with
      | cons r1 r2 =>
        obtain ⟨as, q1⟩ := Dw.reads hok KX d _ _ h1 r1
        obtain ⟨bs, q2⟩ := Dw.readsAll hok KX ds _ _ h2 r2
        exact ⟨_, ReadsAllW.cons q1 q2⟩
end
end
mutual
def plW : WData → Bool
  | .none => true
  | .bool _ => true
  | .int _ => true
  | .str _ => true
  | .bytes _ => true
  | .list xs => plWs xs
  | .tuple xs => plWs xs
  | _ => false
def plWs : List WData → Bool
  | [] => true
  | x :: r => plW x && plWs r
end
theorem plWs_map {α : Type} {f : α → WData} (h : ∀ a, plW (f a) = true) : ∀ l : List α, plWs (l.map f) = true
  | [] => rfl
  | x :: r => by
    show (plW (f x) && plWs (r.map f)) = true
    rw [h x, plWs_map h r] <;> rfl
theorem pl_enc : ∀ (c : Codec) (a : c.denote), plW (c.enc a) = true
  | .unit, _ => rfl
  | .bool, _ => rfl
  | .int _ _, _ => rfl
  | .nat _ _, _ => rfl
  | .u8, _ => rfl
  | .bytes _ _, _ => rfl
  | .text _ _ _ _, _ => rfl
  | .list _ _ c, a => plWs_map (fun x => pl_enc c x) a
  | .pair c d, a => by
    show (plW (c.enc a.1) && (plW (d.enc a.2) && true)) = true
    rw [pl_enc c a.1, pl_enc d a.2] <;> rfl
  | .triple c d e, a => by
    show (plW (c.enc a.1) && (plW (d.enc a.2.1) && (plW (e.enc a.2.2) && true))) = true
    rw [pl_enc c a.1, pl_enc d a.2.1, pl_enc e a.2.2] <;> rfl
  | .option c, none => rfl
  | .option c, some x => pl_enc c x
theorem pl_encAll : ∀ (cs : List Codec) (a : Codec.denoteAll cs), plWs (Codec.encAll cs a) = true
  | [], _ => rfl
  | c :: cs, a => by
    show (plW (c.enc a.1) && plWs (Codec.encAll cs a.2)) = true
    rw [pl_enc c a.1, pl_encAll cs a.2] <;> rfl
theorem weight_mem : ∀ {xs : List WData} {d : WData}, d ∈ xs → d.weight ≤ WData.weightAll xs
  | [], d, h => absurd h (by simp)
  | x :: r, d, h => by
    show d.weight ≤ x.weight + 1 + WData.weightAll r
    rcases List.mem_cons.mp h with e | m
    · rw [e]
      omega
    · have z := weight_mem m
      omega
def toV : Value → V
  | .none => .non
  | .bool b => .bl b
  | .int i _ => .int i
  | .str x _ => .str x
  | .bytes b _ => .byt b
  | .ref a => .ref a
  | _ => .non
def OkU (A : List Addr) : Value → Prop
  | .none => True
  | .bool _ => True
  | .int _ _ => True
  | .str _ _ => True
  | .bytes _ _ => True
  | .ref a => a ∈ A
  | _ => False
theorem OkU.mono {A B : List Addr} (h : ∀ a ∈ A, a ∈ B) : ∀ {u : Value}, OkU A u → OkU B u := fun {u} x => by
  cases u with
  | ref a => exact h a x
  | none => trivial
  | bool b => trivial
  | int i t => trivial
  | str s t => trivial
  | bytes b t => trivial
  | _ => exact False.elim x
theorem relV_toV {A : List Addr} {u : Value} (x : OkU A u) : RelV (toV u) u := by
  cases u with
  | ref a => rfl
  | none => rfl
  | bool b => rfl
  | int i t => exact ⟨t, rfl⟩
  | str s t => exact ⟨t, rfl⟩
  | bytes b t => exact ⟨t, rfl⟩
  | _ => exact False.elim x
theorem vals_toV {A : List Addr} : ∀ {vs : List Value}, (∀ u ∈ vs, OkU A u) → Vals (vs.map toV) vs
  | [], _ => .nil
  | u :: r, h => .cons (relV_toV (h u (List.mem_cons_self ..))) (vals_toV fun x hx => h x (List.mem_cons_of_mem _ hx))
def ArgOb (h : Heap) (A : List Addr) (a : Addr) : Prop := ∃ vs : List Value, vs.length ≤ sizeLine ∧ (∀ u ∈ vs, OkU A u) ∧
  (h.get? a = some { cls := .type "list", data := .seq vs.toArray } ∨ h.get? a = some { cls := .type "tuple", data := .seq vs.toArray })
theorem ArgOb.mono {h : Heap} {A B : List Addr} {a : Addr} (k : ∀ a ∈ A, a ∈ B) (x : ArgOb h A a) : ArgOb h B a := by
  obtain ⟨vs, h1, h2, h3⟩ := x
  exact ⟨vs, h1, fun u hu => (h2 u hu).mono k, h3⟩
theorem wellAll_len {P : Params} {h : Heap} : ∀ {vs : List Value} {ds : List WData}, WellAll P h vs ds → vs.length = ds.length
  | _, _, .nil => rfl
  | _, _, .cons _ b => by
    show _ + 1 = _ + 1
    rw [wellAll_len b]
theorem well_list {P : Params} {h : Heap} {v : Value} {ds : List WData} (x : Well P h v (.list ds)) : ∃ (a : Addr) (vs : List Value), v = .ref a ∧ h.get? a = some { cls := .type "list", data := .seq vs.toArray } ∧ WellAll P h vs ds := by
  cases x with
  | list ho hall => exact ⟨_, _, rfl, ho, hall⟩
theorem well_tuple {P : Params} {h : Heap} {v : Value} {ds : List WData} (x : Well P h v (.tuple ds)) : ∃ (a : Addr) (vs : List Value), v = .ref a ∧ h.get? a = some { cls := .type "tuple", data := .seq vs.toArray } ∧ WellAll P h vs ds := by
  cases x with
  | tuple ho hall => exact ⟨_, _, rfl, ho, hall⟩
theorem well_cons {P : Params} {h : Heap} {us : List Value} {d : WData} {ds : List WData} (x : WellAll P h us (d :: ds)) : ∃ (v : Value) (vs : List Value), us = v :: vs ∧ Well P h v d ∧ WellAll P h vs ds := by
  cases x with
  | cons a b => exact ⟨_, _, rfl, a, b⟩
theorem line_of {n : Nat} (h : n ≤ 1048576) : n ≤ sizeLine := Nat.le_trans h (by decide)
section
variable {P : Params} {h : Heap}
mutual
theorem area_one : ∀ (d : WData) (v : Value), Well P h v d → plW d = true → d.weight ≤ 1048576 → ∃ A : List Addr, OkU A v ∧ ∀ a ∈ A, ArgOb h A a
  | .none, _, x, _, _ => by
    cases x
    exact ⟨[], trivial, fun a m => absurd m (by simp)⟩
  | .bool b, _, x, _, _ => by
    cases x
    exact ⟨[], trivial, fun a m => absurd m (by simp)⟩
  | .int i, _, x, _, _ => by
    cases x
    exact ⟨[], trivial, fun a m => absurd m (by simp)⟩
  | .str s, _, x, _, _ => by
    cases x
    exact ⟨[], trivial, fun a m => absurd m (by simp)⟩
  | .bytes b, _, x, _, _ => by
    cases x
    exact ⟨[], trivial, fun a m => absurd m (by simp)⟩
  | .list ds, _, x, p, z => by
    obtain ⟨a, vs, rfl, ho, hall⟩ := well_list x
    have z2 : WData.weightAll ds ≤ 1048576 := z
    obtain ⟨A, h1, h2⟩ := area_all ds _ hall p fun d hd => Nat.le_trans (weight_mem hd) z2
    have k : ∀ b ∈ A, b ∈ a :: A := fun b hb => List.mem_cons_of_mem _ hb
    refine ⟨a :: A, List.mem_cons_self .., fun b hb => ?_⟩
    rcases List.mem_cons.mp hb with e | m
    · rw [e]
      exact ⟨vs, line_of (by rw [wellAll_len hall]; exact Nat.le_trans (PySem.W.length_le_weightAllW ds) z2), fun u hu => (h1 u hu).mono k, .inl ho⟩
    · exact (h2 b m).mono k
  | .tuple ds, _, x, p, z => by
    obtain ⟨a, vs, rfl, ho, hall⟩ := well_tuple x
    have z2 : WData.weightAll ds ≤ 1048576 := z
    obtain ⟨A, h1, h2⟩ := area_all ds _ hall p fun d hd => Nat.le_trans (weight_mem hd) z2
    have k : ∀ b ∈ A, b ∈ a :: A := fun b hb => List.mem_cons_of_mem _ hb
    refine ⟨a :: A, List.mem_cons_self .., fun b hb => ?_⟩
    rcases List.mem_cons.mp hb with e | m
    · rw [e]
      exact ⟨vs, line_of (by rw [wellAll_len hall]; exact Nat.le_trans (PySem.W.length_le_weightAllW ds) z2), fun u hu => (h1 u hu).mono k, .inr ho⟩
    · exact (h2 b m).mono k
  | .float _, _, _, p, _ => Bool.noConfusion (show false = true from p)
  | .dict _, _, _, p, _ => Bool.noConfusion (show false = true from p)
  | .bytearray _, _, _, p, _ => Bool.noConfusion (show false = true from p)
  | .set _, _, _, p, _ => Bool.noConfusion (show false = true from p)
  | .frozenset _, _, _, p, _ => Bool.noConfusion (show false = true from p)
  | .obj _ _, _, _, p, _ => Bool.noConfusion (show false = true from p)
theorem area_all : ∀ (ds : List WData) (vs : List Value), WellAll P h vs ds → plWs ds = true → (∀ d ∈ ds, d.weight ≤ 1048576) → ∃ A : List Addr, (∀ u ∈ vs, OkU A u) ∧ ∀ a ∈ A, ArgOb h A a
  | [], _, x, _, _ => by
    cases x
    exact ⟨[], fun u m => absurd m (by simp), fun a m => absurd m (by simp)⟩
  | d :: ds, _, x, p, z => by
    obtain ⟨v, vs, rfl, x1, x2⟩ := well_cons x
    have q : plW d = true ∧ plWs ds = true := Bool.and_eq_true_iff.mp p
    obtain ⟨A, a1, a2⟩ := area_one d v x1 q.1 (z d (List.mem_cons_self ..))
    obtain ⟨B, b1, b2⟩ := area_all ds vs x2 q.2 fun e he => z e (List.mem_cons_of_mem _ he)
    have kA : ∀ b ∈ A, b ∈ A ++ B := fun b hb => List.mem_append.mpr (.inl hb)
    have kB : ∀ b ∈ B, b ∈ A ++ B := fun b hb => List.mem_append.mpr (.inr hb)
    refine ⟨A ++ B, fun u hu => ?_, fun b hb => ?_⟩
    · rcases List.mem_cons.mp hu with e | m
      · rw [e]
        exact a1.mono kA
      · exact (b1 u m).mono kB
    · rcases List.mem_append.mp hb with m | m
      · exact (a2 b m).mono kA
      · exact (b2 b m).mono kB
end
end
def hoOf (o : Obj) : Option HO := match o.data with
  | .seq vs _ => if (o.cls == Value.type "list") = true then some (.frz o (.lst (vs.toList.map toV))) else some (.frz o (.tup (vs.toList.map toV)))
  | _ => none
def argH (K : PySem.W.Frag) (h : Heap) (A : List Addr) : Hp := fun b => if b ∈ A then (if (K.lookup b).isNone = true then (h.get? b).bind hoOf else none) else none
def OnlyF (H : Hp) : Prop := ∀ b, H b = none ∨ ∃ o u, H b = some (.frz o u)
theorem hoOf_lst (vs : List Value) : hoOf { cls := .type "list", data := .seq vs.toArray } = some (.frz { cls := .type "list", data := .seq vs.toArray } (.lst (vs.map toV))) := by
  show (if (Value.type "list" == Value.type "list") = true then some (HO.frz { cls := .type "list", data := .seq vs.toArray } (.lst (vs.toArray.toList.map toV))) else some (HO.frz { cls := .type "list", data := .seq vs.toArray } (.tup (vs.toArray.toList.map toV)))) = _
  rw [if_pos (beq_self_eq_true _)]
theorem hoOf_tup (vs : List Value) : hoOf { cls := .type "tuple", data := .seq vs.toArray } = some (.frz { cls := .type "tuple", data := .seq vs.toArray } (.tup (vs.map toV))) := by
  show (if (Value.type "tuple" == Value.type "list") = true then some (HO.frz { cls := .type "tuple", data := .seq vs.toArray } (.lst (vs.toArray.toList.map toV))) else some (HO.frz { cls := .type "tuple", data := .seq vs.toArray } (.tup (vs.toArray.toList.map toV)))) = _
  rw [if_neg (by decide)]
section
variable {P : Program} {w : World} {K : PySem.W.Frag} {h : Heap} {A : List Addr}
theorem argH_at {b : Addr} {o : Obj} (hb : b ∈ A) (hk : K.lookup b = none) (e : h.get? b = some o) : argH K h A b = hoOf o := by
  unfold argH
  rw [if_pos hb, hk, if_pos (show (none : Option Obj).isNone = true from rfl), e] <;> rfl
theorem of_argH {b : Addr} {u : HO} (q : argH K h A b = some u) : b ∈ A ∧ K.lookup b = none := by
  unfold argH at q
  by_cases hb : b ∈ A
  · rw [if_pos hb] at q
    cases hk : K.lookup b with
    | none => exact ⟨hb, rfl⟩
    | some o =>
      rw [hk, if_neg (by simp)] at q
      cases q
  · rw [if_neg hb] at q
    cases q
theorem argH_is (ar : ∀ a ∈ A, ArgOb h A a) {b : Addr} {u : HO} (q : argH K h A b = some u) : K.lookup b = none ∧ ∃ vs : List Value, vs.length ≤ sizeLine ∧ (∀ u ∈ vs, OkU A u) ∧
    ((h.get? b = some { cls := .type "list", data := .seq vs.toArray } ∧ u = .frz { cls := .type "list", data := .seq vs.toArray } (.lst (vs.map toV))) ∨
     (h.get? b = some { cls := .type "tuple", data := .seq vs.toArray } ∧ u = .frz { cls := .type "tuple", data := .seq vs.toArray } (.tup (vs.map toV)))) := by
  obtain ⟨hb, hk⟩ := of_argH q
  obtain ⟨vs, h1, h2, h3⟩ := ar b hb
  refine ⟨hk, vs, h1, h2, ?_⟩
  rcases h3 with e | e
  · rw [argH_at hb hk e, hoOf_lst] at q
    exact .inl ⟨e, (Option.some.inj q).symm⟩
  · rw [argH_at hb hk e, hoOf_tup] at q
    exact .inr ⟨e, (Option.some.inj q).symm⟩
theorem argH_only (ar : ∀ a ∈ A, ArgOb h A a) : OnlyF (argH K h A) := fun b => by
  cases q : argH K h A b with
  | none => exact .inl rfl
  | some u =>
    obtain ⟨_, vs, _, _, ⟨_, e⟩ | ⟨_, e⟩⟩ := argH_is ar q
    · exact .inr ⟨_, _, by rw [e]⟩
    · exact .inr ⟨_, _, by rw [e]⟩
theorem argH_ok (ar : ∀ a ∈ A, ArgOb h A a) : HOk P w (argH K h A) h := fun b u q => by
  obtain ⟨_, vs, h1, h2, ⟨e, rfl⟩ | ⟨e, rfl⟩⟩ := argH_is ar q
  · exact ⟨e, by rw [List.length_map]; exact h1, vs, _, vals_toV h2, e⟩
  · exact ⟨e, by rw [List.length_map]; exact h1, vs, vals_toV h2, _, e, rfl, _, rfl⟩
theorem seq_inj {c c' : Value} {vs us : List Value} (e : (some { cls := c, data := .seq vs.toArray } : Option Obj) = some { cls := c', data := .seq us.toArray }) : c = c' ∧ vs = us := by
  have e1 := Option.some.inj e
  have e2 : c = c' := congrArg Obj.cls e1
  have e3 : Data.seq vs.toArray = Data.seq us.toArray := congrArg Obj.data e1
  injection e3 with e4
  refine ⟨e2, ?_⟩
  have e5 := congrArg Array.toList e4
  simpa using e5
theorem argL (KX : K.In h) (ar : ∀ a ∈ A, ArgOb h A a) {a : Addr} {vs : List Value} (ha : a ∈ A) (e : h.get? a = some { cls := .type "list", data := .seq vs.toArray }) : (∀ u ∈ vs, OkU A u) ∧ SqL K (argH K h A) a (vs.map toV) := by
  obtain ⟨us, h1, h2, h3⟩ := ar a ha
  have hu : us = vs := by
    rcases h3 with q | q
    · rw [e] at q
      exact (seq_inj q).2.symm
    · rw [e] at q
      exact absurd (Value.type.inj (seq_inj q).1) (by decide)
  subst hu
  refine ⟨h2, ?_⟩
  cases hk : K.lookup a with
  | none => exact .inl (.inr ⟨_, by rw [argH_at ha hk e, hoOf_lst]⟩)
  | some o =>
    have e2 := KX a o hk
    rw [e] at e2
    obtain rfl := Option.some.inj e2
    exact .inr ⟨_, us.toArray, _, hk, rfl, rfl, rfl, by rw [List.size_toArray]; exact h1, by simpa using vals_toV h2⟩
theorem argT (KX : K.In h) (ar : ∀ a ∈ A, ArgOb h A a) {a : Addr} {vs : List Value} (ha : a ∈ A) (e : h.get? a = some { cls := .type "tuple", data := .seq vs.toArray }) : (∀ u ∈ vs, OkU A u) ∧ SqT K (argH K h A) a (vs.map toV) := by
  obtain ⟨us, h1, h2, h3⟩ := ar a ha
  have hu : us = vs := by
    rcases h3 with q | q
    · rw [e] at q
      exact absurd (Value.type.inj (seq_inj q).1) (by decide)
    · rw [e] at q
      exact (seq_inj q).2.symm
  subst hu
  refine ⟨h2, ?_⟩
  cases hk : K.lookup a with
  | none => exact .inl (.inr ⟨_, by rw [argH_at ha hk e, hoOf_tup]⟩)
  | some o =>
    have e2 := KX a o hk
    rw [e] at e2
    obtain rfl := Option.some.inj e2
    exact .inr ⟨_, us.toArray, _, hk, rfl, rfl, by rw [List.size_toArray]; exact h1, by simpa using vals_toV h2⟩
mutual
theorem dw_one {Pm : Params} (KX : K.In h) (ar : ∀ a ∈ A, ArgOb h A a) : ∀ (d : WData) (v : Value), Well Pm h v d → plW d = true → OkU A v → Dw K (argH K h A) (toV v) d
  | .none, _, x, _, _ => by
    cases x
    exact .non
  | .bool b, _, x, _, _ => by
    cases x
    exact .bl b
  | .int i, _, x, _, _ => by
    cases x
    exact .int i
  | .str s, _, x, _, _ => by
    cases x
    exact .str s
  | .bytes b, _, x, _, _ => by
    cases x
    have z := Dw.byt (K := K) (H := argH K h A) b.toArray
    exact z
  | .list ds, _, x, p, hu => by
    obtain ⟨a, vs, rfl, ho, hall⟩ := well_list x
    obtain ⟨h2, hs⟩ := argL KX ar hu ho
    exact .lst hs (dw_all KX ar ds _ hall p h2)
  | .tuple ds, _, x, p, hu => by
    obtain ⟨a, vs, rfl, ho, hall⟩ := well_tuple x
    obtain ⟨h2, hs⟩ := argT KX ar hu ho
    exact .tup hs (dw_all KX ar ds _ hall p h2)
  | .float _, _, _, p, _ => Bool.noConfusion (show false = true from p)
  | .dict _, _, _, p, _ => Bool.noConfusion (show false = true from p)
  | .bytearray _, _, _, p, _ => Bool.noConfusion (show false = true from p)
  | .set _, _, _, p, _ => Bool.noConfusion (show false = true from p)
  | .frozenset _, _, _, p, _ => Bool.noConfusion (show false = true from p)
  | .obj _ _, _, _, p, _ => Bool.noConfusion (show false = true from p)
theorem dw_all {Pm : Params} (KX : K.In h) (ar : ∀ a ∈ A, ArgOb h A a) : ∀ (ds : List WData) (vs : List Value), WellAll Pm h vs ds → plWs ds = true → (∀ u ∈ vs, OkU A u) → DwAll K (argH K h A) (vs.map toV) ds
  | [], _, x, _, _ => by
    cases x
    exact .nil
  | d :: ds, _, x, p, hu => by
    obtain ⟨v, vs, rfl, x1, x2⟩ := well_cons x
    have q : plW d = true ∧ plWs ds = true := Bool.and_eq_true_iff.mp p
    exact .cons (dw_one KX ar d v x1 q.1 (hu _ (List.mem_cons_self ..))) (dw_all KX ar ds vs x2 q.2 fun u m => hu u (List.mem_cons_of_mem _ m))
end
end
theorem spec_call {P : Program} {w : World} {K : PySem.W.Frag} {mg mb : Str → Option Value} {CX : CXT} {k : Nat} {fa : Addr} {fd : FuncData} {ps : List Str} {sp : Sp} {s₁ : Shared} {vals : List Value} {ds : List WData} {R : PySem.W.WRecords} {cl : Str → Option Addr} {d0 : WData}
    (KX : K.In s₁.heap) (hns : s₁.heap.Ns mainGlobals mg) (hb : s₁.heap.Ns builtinsNs mb) (hbb : ∀ x : Str, x ≠ "__name__" → mb x = bootBuiltins x) (hlim : s₁.heap.NoLimit) (hg : s₁.gens = #[])
    (hwl : WellAll w.params s₁.heap vals ds) (hpl : plWs ds = true) (hwt : ∀ d ∈ ds, d.weight ≤ 1048576) (hr : Room k callerA)
    (F : ∀ base : Heap, K.In base → base.Ns mainGlobals mg → FnOk P w K mg base CX k fa fd ps sp) (hbind : ∀ (s : Shared) (us : List Value), us.length = ps.length → BindsTo s fd ⟨us, []⟩ (ps.zip us)) (hlen : ds.length = ps.length)
    (hsp : ∀ (H : Hp) (xs : List V), OnlyF H → DwAll K H xs ds → sp xs H (fun v H' => Dw K H' v d0) fun _ _ _ => False)
    (hCX : ∀ H e s', CX [] H s₁ (fun _ _ _ => False) e s' → False) :
    codeAny (model P w) callerA (.call (.ref fa) ⟨vals, []⟩) (fun r s' => ∃ u as, r = .ok (.ret u) ∧ ReadsW R cl s'.heap u d0 as ∧ OldK s₁.heap s'.heap ∧ s'.os = s₁.os ∧ AllBare s'.gens) s₁ := by
  obtain ⟨A, ho, ar⟩ := area_all ds vals hwl hpl hwt
  have hO : OnlyF (argH K s₁.heap A) := argH_only ar
  have hok : HOk P w (argH K s₁.heap A) s₁.heap := argH_ok ar
  have hS := dw_all KX ar ds vals hwl hpl ho
  have hV := vals_toV ho
  have hK : ∀ b u, argH K s₁.heap A b = some u → K.lookup b = none := fun b u q => (argH_is ar q).1
  have noA : ∀ {b : Addr} {o : Obj} {es : Array DictEntry} {ep : Nat}, s₁.heap.get? b = some o → o.data = .dict es ep → argH K s₁.heap A b = none := fun {b o es ep} e d => by
    cases q : argH K s₁.heap A b with
    | none => rfl
    | some u =>
      obtain ⟨_, vs, _, _, ⟨e2, _⟩ | ⟨e2, _⟩⟩ := argH_is ar q
      · rw [e2] at e
        cases e
        have d' : Data.seq vs.toArray _ = Data.dict es ep := d
        cases d'
      · rw [e2] at e
        cases e
        have d' : Data.seq vs.toArray _ = Data.dict es ep := d
        cases d'
  generalize argH K s₁.heap A = H at hO hok hS hK noA
  have base_of : ∀ {b : Addr} {o : Obj}, s₁.heap.get? b = some o → H b = none → (hidT s₁.heap H).get? b = some o := fun e n => hidT_get e n
  have nsK : ∀ {b : Addr} {m : Str → Option Value}, s₁.heap.Ns b m → (hidT s₁.heap H).Ns b m := fun {b m} ⟨o, es, ep, e, d, r⟩ => ⟨o, es, ep, base_of e (noA e d), d, r⟩
  have nK : ∀ b o, K.lookup b = some o → H b = none := fun b o e => by
    cases q : H b with
    | none => rfl
    | some u =>
      rw [hK b u q] at e
      cases e
  have hKb : K.In (hidT s₁.heap H) := fun b o e => base_of (KX b o e) (nK b o e)
  have hM : Mod K mg (hidT s₁.heap H) := ⟨hKb, nsK hns, ⟨mb, nsK hb, hbb⟩, let ⟨mc, h1, h2⟩ := hlim; ⟨mc, nsK h1, h2⟩⟩
  have e0 : Env0 P w K mg (hidT s₁.heap H) callerA [] s₁ H := ⟨rfl, hM, fun b o e => of_hidT e, Nat.le_of_eq (hidT_size _ _), trivial, fun b hb => absurd (show b ∈ ([] : List Addr) from hb) (by simp), hok, .of_eq hg⟩
  have hl : vals.length = ps.length := by rw [wellAll_len hwl]; exact hlen
  refine codeAny_mono ((F _ hKb (nsK hns)).run callerA [] s₁ H ⟨vals, []⟩ vals (vals.map toV) _ _ hr e0 (hbind s₁ vals hl) hV (hsp H _ hO hS)) fun r s' x => ?_
  cases r with
  | error e => exact (hCX H e s' x).elim
  | ok fl =>
    cases fl with
    | next => exact False.elim x
    | brk => exact False.elim x
    | cont => exact False.elim x
    | ret u =>
      obtain ⟨v, H', os, bare, un, hok', r', q⟩ := x
      have kept : ∀ b o, s₁.heap.get? b = some o → s'.heap.get? b = some o := fun b o e => by
        cases q2 : H b with
        | none => exact un.keep b o e q2 (by intro z; exact absurd (show b ∈ ([] : List Addr) from z) (by simp)) (by simp)
        | some u2 =>
          rcases hO b with z | ⟨ob, u3, z⟩
          · rw [q2] at z
            cases z
          · have z2 := un.frzs b ob _ z
            obtain ⟨e1, _⟩ := hok b _ z
            obtain ⟨e2, _⟩ := hok' b _ z2
            rw [e] at e1
            cases e1
            exact e2
      have KX' : K.In s'.heap := fun b o e => kept b o (KX b o e)
      obtain ⟨as, hrd⟩ := Dw.reads (R := R) (cl := cl) hok' KX' d0 v u q r'
      exact ⟨u, as, rfl, hrd, OldK.of_keep kept, os, bare⟩
theorem layable_weight {ds : List WData} (h : WData.layableAll ds = true) : ∀ d ∈ ds, d.weight ≤ 1048576 := fun d hd =>
  (PySem.W.layableW_iff.mp (List.all_eq_true.mp h d hd)).2.2
theorem encAll_len : ∀ (cs : List Codec) (a : Codec.denoteAll cs), (Codec.encAll cs a).length = cs.length
  | [], _ => rfl
  | c :: cs, a => by
    show (Codec.encAll cs a.2).length + 1 = cs.length + 1
    rw [encAll_len cs a.2]
theorem walk_spec {r : OpenSpec} {k : Nat} {q : Program} {loose : List Str} {XP : (Str → Option Value) → Heap → Prop} {YP : World → Heap → Prop} {d : DefRec} {K : Params → PySem.W.Frag} {CX : World → CXT} {ps : List Str} {sp : World → Sp}
    (hwell : r.wellSaid = true) (hdf : d.params.defaults = []) (hlen : r.args.length = ps.length) (hr : Room k callerA)
    (hY : ∀ (w : World) (h : Heap), YP w h → (K w.params).In h)
    (F : ∀ (w : World) (mg : Str → Option Value) (fa : Addr) (h : Heap), YP w h → (K w.params).In h → h.Ns mainGlobals mg → mg d.name = some (.ref fa) →
      ∃ fd : FuncData, (∀ (s : Shared) (us : List Value), us.length = ps.length → BindsTo s fd ⟨us, []⟩ (ps.zip us)) ∧
        ∀ base : Heap, (K w.params).In base → base.Ns mainGlobals mg → FnOk r.prog w (K w.params) mg base (CX w) k fa fd ps (sp w))
    (hsp : ∀ (w : World) (H : Hp) (xs : List V) (a : Codec.denoteAll r.args), OnlyF H → Codec.withinAll r.args a = true → Codec.app r.args r.asked a = true → DwAll (K w.params) H xs (Codec.encAll r.args a) →
      sp w xs H (fun v H' => Dw (K w.params) H' v (r.ret.enc (Codec.app r.args r.f a))) fun _ _ _ => False)
    (hCX : ∀ (w : World) (H : Hp) (s : Shared) (e : Value) (s' : Shared), CX w [] H s (fun _ _ _ => False) e s' → False) :
    PySem.W.WalkOS q loose XP YP r d [] (fun f vs => PySem.call f vs) := by
  intro w s_0 s₁ mg mb G Y fa o pm cd doc dV kV ho hd hcd hD hmg hg args vals as hpre hlay hrd hwl hlo
  obtain ⟨a, e1, e2⟩ := PySem.W.os_pre_some hpre
  obtain ⟨e3, hwi⟩ := Codec.encAll_of_decAll r.args args a e1
  subst e3
  have KX := hY w _ Y
  obtain ⟨fd, hb, hF⟩ := F w mg fa _ Y KX G.T.g hmg
  refine PySem.W.enter_call (codeAny_mono (spec_call (R := []) (cl := classAt s_0.heap) (d0 := r.ret.enc (Codec.app r.args r.f a)) KX G.T.g G.T.b G.T.builtins G.T.nolimit hg hwl (pl_encAll _ _) (layable_weight hlay) hr hF hb (by rw [encAll_len]; exact hlen)
    (fun H xs hO hS => hsp w H xs a hO hwi e2 hS) fun H e s' => hCX w H s₁ e s') fun r' s' hq => ?_)
  obtain ⟨u, as', rfl, h1, h2, h3, h4⟩ := hq
  exact ⟨.inl ⟨u, _, as', rfl, fun _ => rfl, h1, (OpenSpec.post_iff hwell hwi _ _).mpr rfl, fun z => Bool.noConfusion (show false = true from z)⟩, h2, h3, h4⟩
theorem walk_specK {r : OpenSpec} {k : Nat} {q : Program} {loose : List Str} {XP : (Str → Option Value) → Heap → Prop} {YP : World → Heap → Prop} {d : DefRec} {K : Params → PySem.W.Frag} {CX : CXT} {ps : List Str} {sp : PySem.W.Frag → Sp}
    (hwell : r.wellSaid = true) (hdf : d.params.defaults = []) (hlen : r.args.length = ps.length) (hr : Room k callerA)
    (hY : ∀ (w : World) (h : Heap), YP w h → (K w.params).In h)
    (F : ∀ (w : World) (mg : Str → Option Value) (fa : Addr) (h : Heap), YP w h → (K w.params).In h → h.Ns mainGlobals mg → mg d.name = some (.ref fa) →
      ∃ fd : FuncData, (∀ (s : Shared) (us : List Value), us.length = ps.length → BindsTo s fd ⟨us, []⟩ (ps.zip us)) ∧
        ∀ base : Heap, (K w.params).In base → base.Ns mainGlobals mg → FnOk r.prog w (K w.params) mg base CX k fa fd ps (sp (K w.params)))
    (hsp : ∀ (K : PySem.W.Frag) (H : Hp) (xs : List V) (a : Codec.denoteAll r.args), OnlyF H → Codec.withinAll r.args a = true → Codec.app r.args r.asked a = true → DwAll K H xs (Codec.encAll r.args a) →
      sp K xs H (fun v H' => Dw K H' v (r.ret.enc (Codec.app r.args r.f a))) fun _ _ _ => False)
    (hCX : ∀ (H : Hp) (s : Shared) (e : Value) (s' : Shared), CX [] H s (fun _ _ _ => False) e s' → False) :
    PySem.W.WalkOS q loose XP YP r d [] (fun f vs => PySem.call f vs) :=
  walk_spec (K := K) (CX := fun _ => CX) (sp := fun w => sp (K w.params)) hwell hdf hlen hr hY F (fun w H xs a h1 h2 h3 h4 => hsp (K w.params) H xs a h1 h2 h3 h4) fun _ H s e s' => hCX H s e s'
end L2
end
end
section
set_option linter.all false
set_option maxRecDepth 100000
namespace SU
open PySem
/-! sets of small ints: their tables -/
abbrev Ris (l : List Nat) : Prop := l.Pairwise (· < ·)
theorem below_go (xs : Array Nat) (j : Nat) (hr : Ris xs.toList) : ∀ (f lo hi : Nat), lo ≤ hi → hi ≤ xs.size → hi - lo ≤ f →
    (∀ m, m < lo → xs.getD m j < j) → (∀ m, hi ≤ m → m < xs.size → j ≤ xs.getD m j) →
    SetTable.below.go xs j f lo hi ≤ xs.size ∧ (∀ m, m < SetTable.below.go xs j f lo hi → xs.getD m j < j) ∧ (∀ m, SetTable.below.go xs j f lo hi ≤ m → m < xs.size → j ≤ xs.getD m j)
  | 0, lo, hi, h1, h2, h3, h4, h5 => by
    have e : lo = hi := by omega
    subst e
    exact ⟨h2, h4, h5⟩
  | f + 1, lo, hi, h1, h2, h3, h4, h5 => by
    unfold SetTable.below.go
    by_cases hlt : lo < hi
    · rw [if_pos hlt]
      dsimp only
      have hm : (lo + hi) / 2 < xs.size := by omega
      have mono : ∀ a b, a < b → b < xs.size → xs.getD a j < xs.getD b j := fun a b hab hb => by
        have ha : a < xs.size := by omega
        have := List.pairwise_iff_getElem.mp hr a b (by simpa using ha) (by simpa using hb) hab
        simpa [Array.getD, ha, hb] using this
      by_cases hc : xs.getD ((lo + hi) / 2) j < j
      · rw [if_pos hc]
        refine below_go xs j hr f _ hi (by omega) h2 (by omega) (fun m hm' => ?_) h5
        by_cases e : m = (lo + hi) / 2
        · subst e; exact hc
        · exact Nat.lt_trans (mono m _ (by omega) hm) hc
      · rw [if_neg hc]
        refine below_go xs j hr f lo _ (by omega) (by omega) (by omega) h4 (fun m hm1 hm2 => ?_)
        by_cases e : m = (lo + hi) / 2
        · subst e; omega
        · have := mono ((lo + hi) / 2) m (by omega) hm2
          omega
    · rw [if_neg hlt]
      have e : lo = hi := by omega
      subst e
      exact ⟨h2, h4, h5⟩
theorem below_spec (xs : Array Nat) (j : Nat) (hr : Ris xs.toList) : SetTable.below xs j ≤ xs.size ∧ (∀ m, m < SetTable.below xs j → xs.getD m j < j) ∧ (∀ m, SetTable.below xs j ≤ m → m < xs.size → j ≤ xs.getD m j) :=
  below_go xs j hr xs.size 0 xs.size (Nat.zero_le _) (Nat.le_refl _) (by omega) (fun m h => by omega) (fun m h1 h2 => by omega)
theorem getD_mem {xs : Array Nat} {m d : Nat} (h : m < xs.size) : xs.toList[m]? = some (xs.getD m d) := by
  simp [Array.getD, h]
/-- the walk by slots: behind place i comes place i + 1 -/
theorem below_zero (xs : Array Nat) (hr : Ris xs.toList) : SetTable.below xs 0 = 0 := by
  obtain ⟨h1, h2, _⟩ := below_spec xs 0 hr
  cases e : SetTable.below xs 0 with
  | zero => rfl
  | succ n => have := h2 0 (by omega); omega
theorem below_next {xs : Array Nat} (hr : Ris xs.toList) {i p : Nat} (hp : xs[i]? = some p) : SetTable.below xs (p + 1) = i + 1 := by
  obtain ⟨h1, h2, h3⟩ := below_spec xs (p + 1) hr
  obtain ⟨hi, hpi⟩ := Array.getElem?_eq_some_iff.mp hp
  have ei : xs.getD i (p + 1) = p := by simp [Array.getD, hi, hpi]
  have mono : ∀ a b, a < b → b < xs.size → xs.getD a (p + 1) < xs.getD b (p + 1) := fun a b hab hb => by
    have ha : a < xs.size := by omega
    have := List.pairwise_iff_getElem.mp hr a b (by simpa using ha) (by simpa using hb) hab
    simpa [Array.getD, ha, hb] using this
  have g1 : i < SetTable.below xs (p + 1) := by
    refine Nat.lt_of_not_le fun hc => ?_
    have := h3 i hc hi
    omega
  have g2 : SetTable.below xs (p + 1) ≤ i + 1 := by
    refine Nat.le_of_not_lt fun hc => ?_
    have hs : i + 1 < xs.size := by omega
    have a1 := h2 (i + 1) hc
    have a2 := mono i (i + 1) (by omega) hs
    omega
  omega
/-- a slot that is not live -/
theorem slot_empty {t : SetTable} (hd : t.dummies = #[]) {j : Nat} (h : t.slot j = .empty ∨ t.slot j = .dummy) (hr : Ris t.place.toList) : j ∉ t.place.toList := by
  intro hm
  obtain ⟨i, hi, e⟩ := List.mem_iff_getElem.mp hm
  have hi' : i < t.place.size := by simpa using hi
  obtain ⟨h1, h2, h3⟩ := below_spec t.place j hr
  have eb : SetTable.below t.place j = i := by
    have hge : t.place.getD i j = j := by simp [Array.getD, hi']; simpa using e
    have mono : ∀ a b, a < b → b < t.place.size → t.place.getD a j < t.place.getD b j := fun a b hab hb => by
      have ha : a < t.place.size := by omega
      have := List.pairwise_iff_getElem.mp hr a b (by simpa using ha) (by simpa using hb) hab
      simpa [Array.getD, ha, hb] using this
    have g1 : ¬ i < SetTable.below t.place j := fun hc => by have := h2 i hc; omega
    have g2 : ¬ SetTable.below t.place j < i := fun hc => by
      have a1 := h3 _ (Nat.le_refl _) (by omega)
      have a2 := mono _ i hc hi'
      omega
    omega
  have hget : t.place[i]? = some j := by rw [Array.getElem?_eq_getElem hi']; simpa using e
  unfold SetTable.slot at h
  rw [eb] at h
  simp [hget] at h
theorem slot_free {t : SetTable} (hd : t.dummies = #[]) {j : Nat} (hr : Ris t.place.toList) (h : j ∉ t.place.toList) : t.slot j = .empty := by
  unfold SetTable.slot
  dsimp only
  have hp : (t.place[SetTable.below t.place j]? == some j) = false := by
    cases e : t.place[SetTable.below t.place j]? with
    | none => rfl
    | some x =>
      by_cases hx : x = j
      · subst hx
        obtain ⟨a, b⟩ := Array.getElem?_eq_some_iff.mp e
        exact absurd (by rw [← b]; simp) h
      · simp [hx]
  rw [hp, hd]
  rfl
theorem ris_insert {xs : Array Nat} {j : Nat} (hr : Ris xs.toList) (hj : j ∉ xs.toList) : Ris (SetTable.insertAt xs (SetTable.below xs j) j).toList := by
  obtain ⟨h1, h2, h3⟩ := below_spec xs j hr
  rw [SetTable.toList_insertAt]
  refine List.pairwise_append.mpr ⟨hr.sublist (List.take_sublist _ _), List.pairwise_cons.mpr ⟨fun b hb => ?_, hr.sublist (List.drop_sublist _ _)⟩, fun a ha b hb => ?_⟩
  · obtain ⟨i, hi, e⟩ := List.mem_iff_getElem.mp hb
    rw [List.getElem_drop] at e
    have hs : SetTable.below xs j + i < xs.size := by simp at hi; omega
    have g := h3 (SetTable.below xs j + i) (by omega) hs
    have e' : xs.getD (SetTable.below xs j + i) j = b := by simp [Array.getD, hs]; simpa using e
    have hb' : b ∈ xs.toList := List.mem_of_mem_drop hb
    have : b ≠ j := fun q => hj (q ▸ hb')
    omega
  · have ga : a < j := by
      obtain ⟨i, hi, e⟩ := List.mem_iff_getElem.mp ha
      rw [List.getElem_take] at e
      have hs : i < xs.size := by simp at hi; omega
      have hlt : i < SetTable.below xs j := by simp at hi; omega
      have g := h2 i hlt
      have e' : xs.getD i j = a := by simp [Array.getD, hs]; simpa using e
      omega
    rcases List.mem_cons.mp hb with rfl | hb
    · exact ga
    · obtain ⟨i, hi, e⟩ := List.mem_iff_getElem.mp hb
      rw [List.getElem_drop] at e
      have hs : SetTable.below xs j + i < xs.size := by simp at hi; omega
      have g := h3 (SetTable.below xs j + i) (by omega) hs
      have e' : xs.getD (SetTable.below xs j + i) j = b := by simp [Array.getD, hs]; simpa using e
      omega
/-! free slots -/
theorem go_same {t u : SetTable} (hs : ∀ j, t.slot j = u.slot j) (hm : t.mask = u.mask) (ha : Nat → Int) (h : Int) : ∀ (f : Nat) (p : SetTable.Probe), SetTable.probe.go t ha h f p = SetTable.probe.go u ha h f p
  | 0, p => rfl
  | f + 1, p => by
    have hadv : ∀ q, t.advance q = u.advance q := fun q => by unfold SetTable.advance; rw [hm]
    unfold SetTable.probe.go
    rw [hs]
    cases u.slot p.j with
    | empty => rfl
    | dummy => dsimp only; rw [hadv]; exact go_same hs hm ha h f _
    | live i => dsimp only; rw [hadv]; split <;> first | rfl | exact go_same hs hm ha h f _
theorem freeSlot_same {t u : SetTable} (hp : t.place = u.place) (hd : t.dummies = u.dummies) (hm : t.mask = u.mask) (h : Int) : t.freeSlot h = u.freeSlot h := by
  have hs : ∀ j, t.slot j = u.slot j := fun j => by unfold SetTable.slot; rw [hp, hd]
  have e1 : t.probeStart h = u.probeStart h := by unfold SetTable.probeStart; rw [hm]
  unfold SetTable.freeSlot SetTable.probe
  rw [e1, hm, go_same hs hm]
def tab7 (m : Nat) : SetTable := { mask := 7, place := ((List.range 8).filter (fun j => m.testBit j)).toArray, dummies := #[], finger := 0, led := true, moves := 0, plain := true }
def okFree (m h : Nat) : Bool := match (tab7 m).freeSlot (h : Nat) with
  | some (j, d) => decide (j < 8) && !m.testBit j && !d
  | none => false
theorem free7 : ((List.range 256).filter fun m => decide (((List.range 8).filter (fun j => m.testBit j)).length ≤ 4)).all (fun m => (List.range 12).all fun h => okFree m h) = true := by decide +kernel
end SU
end
section
set_option linter.all false
set_option maxRecDepth 100000
namespace SU
open PySem
theorem ris_ext : ∀ {l m : List Nat}, Ris l → Ris m → (∀ k, k ∈ l ↔ k ∈ m) → l = m
  | [], [], _, _, _ => rfl
  | [], b :: m, _, _, h => absurd ((h b).mpr List.mem_cons_self) List.not_mem_nil
  | a :: l, [], _, _, h => absurd ((h a).mp List.mem_cons_self) List.not_mem_nil
  | a :: l, b :: m, h1, h2, h => by
    have h1' := List.pairwise_cons.mp h1
    have h2' := List.pairwise_cons.mp h2
    have e : a = b := by
      rcases List.mem_cons.mp ((h a).mp List.mem_cons_self) with q | q
      · exact q
      · rcases List.mem_cons.mp ((h b).mpr List.mem_cons_self) with r | r
        · exact r.symm
        · have := h1'.1 b r
          have := h2'.1 a q
          omega
    subst e
    congr 1
    refine ris_ext h1'.2 h2'.2 fun k => ⟨fun hk => ?_, fun hk => ?_⟩
    · rcases List.mem_cons.mp ((h k).mp (List.mem_cons_of_mem _ hk)) with q | q
      · subst q; have := h1'.1 k hk; omega
      · exact q
    · rcases List.mem_cons.mp ((h k).mpr (List.mem_cons_of_mem _ hk)) with q | q
      · subst q; have := h2'.1 k hk; omega
      · exact q
theorem ris_range_filter (n : Nat) (p : Nat → Bool) : Ris ((List.range n).filter p) := List.Pairwise.filter _ List.pairwise_lt_range
theorem bits8 : ∀ b0 b1 b2 b3 b4 b5 b6 b7 : Bool, (b0.toNat + 2 * b1.toNat + 4 * b2.toNat + 8 * b3.toNat + 16 * b4.toNat + 32 * b5.toNat + 64 * b6.toNat + 128 * b7.toNat < 256) ∧
    (List.range 8).all (fun j => (b0.toNat + 2 * b1.toNat + 4 * b2.toNat + 8 * b3.toNat + 16 * b4.toNat + 32 * b5.toNat + 64 * b6.toNat + 128 * b7.toNat).testBit j == [b0, b1, b2, b3, b4, b5, b6, b7].getD j false) = true := by decide +kernel
theorem mask_of (p : Nat → Bool) : ∃ m, m < 256 ∧ ∀ j, j < 8 → m.testBit j = p j := by
  obtain ⟨h1, h2⟩ := bits8 (p 0) (p 1) (p 2) (p 3) (p 4) (p 5) (p 6) (p 7)
  refine ⟨_, h1, fun j hj => ?_⟩
  have := List.all_eq_true.mp h2 j (List.mem_range.mpr hj)
  rw [eq_of_beq this]
  match j, hj with
  | 0, _ => rfl
  | 1, _ => rfl
  | 2, _ => rfl
  | 3, _ => rfl
  | 4, _ => rfl
  | 5, _ => rfl
  | 6, _ => rfl
  | 7, _ => rfl
/-- a table of eight slots, at most four taken: there is room for a small int -/
theorem free_small {t : SetTable} (hd : t.dummies = #[]) (hm : t.mask = 7) (hr : Ris t.place.toList) (h7 : ∀ j ∈ t.place.toList, j ≤ 7) (h4 : t.place.size ≤ 4) {k : Nat} (hk : k < 12) :
    ∃ j, t.freeSlot (k : Nat) = some (j, false) ∧ j ≤ 7 ∧ j ∉ t.place.toList := by
  obtain ⟨m, hm1, hm2⟩ := mask_of fun j => t.place.toList.contains j
  have e : t.place.toList = (List.range 8).filter (fun j => m.testBit j) := by
    refine ris_ext hr (ris_range_filter _ _) fun j => ?_
    rw [List.mem_filter, List.mem_range]
    constructor
    · intro h
      have := h7 j h
      exact ⟨by omega, by rw [hm2 j (by omega)]; simpa using h⟩
    · rintro ⟨a, b⟩
      rw [hm2 j a] at b
      simpa using b
  have hs : t.freeSlot (k : Nat) = (tab7 m).freeSlot (k : Nat) := freeSlot_same (by show t.place = ((List.range 8).filter (fun j => m.testBit j)).toArray; rw [← e]) hd hm _
  have hall := List.all_eq_true.mp free7 m (List.mem_filter.mpr ⟨List.mem_range.mpr hm1, by rw [← e]; simpa using h4⟩)
  have h12 := List.all_eq_true.mp hall k (List.mem_range.mpr hk)
  unfold okFree at h12
  rw [hs]
  cases q : (tab7 m).freeSlot (k : Nat) with
  | none => rw [q] at h12; cases h12
  | some x =>
    obtain ⟨j, d⟩ := x
    rw [q] at h12
    simp only [Bool.and_eq_true, decide_eq_true_eq, Bool.not_eq_true'] at h12
    obtain ⟨⟨a, b⟩, c⟩ := h12
    subst c
    refine ⟨j, rfl, by omega, ?_⟩
    rw [e]
    intro hc
    have := (List.mem_filter.mp hc).2
    rw [b] at this
    cases this
theorem bits_nat {k : Nat} (h : k < 12) : SetTable.bits (k : Nat) = k := by
  unfold SetTable.bits
  omega
/-- a table that is wide enough: a small int stands at its own slot -/
theorem free_direct {t : SetTable} (hd : t.dummies = #[]) (hm : 15 ≤ t.mask) (hr : Ris t.place.toList) {k : Nat} (hk : k < 12) (hn : k ∉ t.place.toList) : t.freeSlot (k : Nat) = some (k, false) := by
  have hb : SetTable.bits ((k : Nat) : Int) % (t.mask + 1) = k := by rw [bits_nat hk]; exact Nat.mod_eq_of_lt (by omega)
  have hs : t.slot k = .empty := slot_free hd hr hn
  unfold SetTable.freeSlot SetTable.probe
  obtain ⟨f, hf⟩ : ∃ f, 10 * SetTable.turns t.mask = f + 1 := ⟨10 * SetTable.turns t.mask - 1, by unfold SetTable.turns; omega⟩
  rw [hf]
  unfold SetTable.probe.go
  have hj : (t.probeStart ((k : Nat) : Int)).j = k := hb
  have hdm : (t.probeStart ((k : Nat) : Int)).dummy = none := rfl
  rw [hj, hs, hdm]
  rfl
end SU
end
section
set_option linter.all false
set_option maxRecDepth 100000
namespace SU
open PySem
/-- the place of a number in a list, counted from n -/
def pos : List Nat → Nat → Nat → Option Nat
  | [], _, _ => none
  | a :: l, n, j => if a = j then some n else pos l (n + 1) j
theorem pos_some : ∀ {l : List Nat} {n j : Nat}, j ∈ l → ∃ i, pos l n j = some (n + i) ∧ l[i]? = some j
  | a :: l, n, j, h => by
    by_cases e : a = j
    · exact ⟨0, by unfold pos; rw [if_pos e]; rfl, by rw [e]; rfl⟩
    · obtain ⟨i, h1, h2⟩ := pos_some (l := l) (n := n + 1) (j := j) (by rcases List.mem_cons.mp h with q | q; exact absurd q.symm e; exact q)
      exact ⟨i + 1, by unfold pos; rw [if_neg e, h1]; congr 1; omega, h2⟩
theorem pos_none : ∀ {l : List Nat} {n j : Nat}, j ∉ l → pos l n j = none
  | [], _, _, _ => rfl
  | a :: l, n, j, h => by
    unfold pos
    rw [if_neg (fun e => h (by rw [e]; exact List.mem_cons_self))]
    exact pos_none fun q => h (List.mem_cons_of_mem _ q)
theorem pos_map : ∀ {l : List Nat} {n : Nat}, l.Nodup → l.map (fun j => (pos l n j).getD 0) = List.range' n l.length
  | [], _, _ => rfl
  | a :: l, n, h => by
    obtain ⟨h1, h2⟩ := List.nodup_cons.mp h
    rw [List.map_cons, List.length_cons, List.range'_succ]
    congr 1
    · unfold pos; rw [if_pos rfl]; rfl
    · rw [← pos_map (l := l) (n := n + 1) h2]
      refine List.map_congr_left fun j hj => ?_
      show (pos (a :: l) n j).getD 0 = _
      rw [show pos (a :: l) n j = pos l (n + 1) j from by
        show (if a = j then some n else pos l (n + 1) j) = _
        rw [if_neg (fun e => h1 (by rw [e]; exact hj))]]
theorem free_own {mask : Nat} {owner : Array (Option Nat)} {k f : Nat} (hs : owner.size = mask + 1) (hk : k ≤ mask) (hn : owner.getD k none = none) : SetTable.layClean.free mask owner (f + 1) k k = some k := by
  unfold SetTable.layClean.free
  have hlt : k < owner.size := by omega
  obtain ⟨n, hr⟩ : ∃ n, SetTable.runEnd mask k + 1 - k = n + 1 := ⟨SetTable.runEnd mask k - k, by unfold SetTable.runEnd; split <;> omega⟩
  rw [hr, List.range_succ_eq_map, List.find?_cons]
  have e : (owner.getD (k + 0) (some 0)).isNone = true := by
    rw [Nat.add_zero]
    have e1 : owner.getD k (some 0) = owner.getD k none := by simp [Array.getD, hlt]
    rw [e1, hn]
    rfl
  rw [e]
  rfl
def layStep (mask : Nat) (acc : Option (Array (Option Nat) × Nat)) (h : Int) : Option (Array (Option Nat) × Nat) := do
  let (owner, k) ← acc
  let j ← SetTable.layClean.free mask owner (SetTable.turns mask) (SetTable.bits h % (mask + 1)) (SetTable.bits h)
  pure (owner.setIfInBounds j (some k), k + 1)
theorem lay_fold {mask : Nat} (hm : 15 ≤ mask) : ∀ (ks : List Nat) (owner : Array (Option Nat)) (n : Nat), owner.size = mask + 1 → ks.Nodup → (∀ k ∈ ks, k < 12 ∧ owner.getD k none = none) →
    ∃ (owner' : Array (Option Nat)) (n' : Nat), (ks.map fun k => ((k : Nat) : Int)).foldl (layStep mask) (some (owner, n)) = some (owner', n') ∧ ∀ j, owner'.getD j none = (owner.getD j none).or (pos ks n j)
  | [], owner, n, _, _, _ => ⟨owner, n, rfl, fun j => by show _ = (owner.getD j none).or none; rw [Option.or_none]⟩
  | a :: ks, owner, n, hs, hnd, hk => by
    obtain ⟨h1, h2⟩ := List.nodup_cons.mp hnd
    obtain ⟨ha, hna⟩ := hk a List.mem_cons_self
    have hfree : SetTable.layClean.free mask owner (SetTable.turns mask) (SetTable.bits ((a : Nat) : Int) % (mask + 1)) (SetTable.bits ((a : Nat) : Int)) = some a := by
      rw [bits_nat ha, Nat.mod_eq_of_lt (by omega)]
      exact free_own (f := mask + 14) hs (by omega) hna
    have hg : ∀ j, (owner.setIfInBounds a (some n)).getD j none = if a = j then some n else owner.getD j none := fun j => by
      by_cases e : a = j
      · subst e
        rw [if_pos rfl]
        simp [Array.getD, show a < owner.size by omega]
      · rw [if_neg e]
        by_cases hj : j < owner.size
        · simp [Array.getD, hj, Array.getElem_setIfInBounds, e]
        · simp [Array.getD, hj]
    obtain ⟨owner', n', e1, e2⟩ := lay_fold hm ks (owner.setIfInBounds a (some n)) (n + 1) (by simpa using hs) h2 fun k hk' => ⟨(hk k (List.mem_cons_of_mem _ hk')).1, by
      rw [hg, if_neg (fun q => h1 (by rw [q]; exact hk'))]
      exact (hk k (List.mem_cons_of_mem _ hk')).2⟩
    refine ⟨owner', n', ?_, fun j => ?_⟩
    · rw [List.map_cons, List.foldl_cons]
      have : layStep mask (some (owner, n)) ((a : Nat) : Int) = some (owner.setIfInBounds a (some n), n + 1) := by
        unfold layStep
        show (SetTable.layClean.free mask owner (SetTable.turns mask) (SetTable.bits ((a : Nat) : Int) % (mask + 1)) (SetTable.bits ((a : Nat) : Int)) >>= _) = _
        rw [hfree]
        rfl
      rw [this, e1]
    · have ep : pos (a :: ks) n j = if a = j then some n else pos ks (n + 1) j := rfl
      rw [e2, hg, ep]
      by_cases e : a = j
      · subst e
        rw [if_pos rfl, if_pos rfl, hna]
        rfl
      · rw [if_neg e, if_neg e]
theorem lay_clean {mask : Nat} (hm : 15 ≤ mask) {ks : List Nat} (hnd : ks.Nodup) (hk : ∀ k ∈ ks, k < 12) {hs : Array Int} (eh : hs.toList = ks.map fun k => ((k : Nat) : Int)) :
    ∃ owner, SetTable.layClean mask hs = some owner ∧ ∀ j, owner.getD j none = pos ks 0 j := by
  obtain ⟨owner, n', e1, e2⟩ := lay_fold hm ks (Array.replicate (mask + 1) none) 0 (by simp) hnd fun k h => ⟨hk k h, by
    by_cases q : k < mask + 1 <;> simp [Array.getD, q]⟩
  refine ⟨owner, ?_, fun j => ?_⟩
  · show (hs.foldl (layStep mask) (some (Array.replicate (mask + 1) none, 0))).map (·.1) = some owner
    rw [← Array.foldl_toList, eh, e1]
    rfl
  · rw [e2]
    have : (Array.replicate (mask + 1) (none : Option Nat)).getD j none = none := by by_cases q : j < mask + 1 <;> simp [Array.getD, q]
    rw [this]
    rfl
/-- the ints of a list, in the order of a wide table -/
def inOrder (mask : Nat) (ks : List Nat) : List Nat := (List.range (mask + 1)).filter fun j => decide (j ∈ ks)
def ordOf (mask : Nat) (ks : List Nat) : List Nat := (inOrder mask ks).map fun j => (pos ks 0 j).getD 0
theorem mem_inOrder {mask : Nat} (hm : 15 ≤ mask) {ks : List Nat} (hk : ∀ k ∈ ks, k < 12) (j : Nat) : j ∈ inOrder mask ks ↔ j ∈ ks := by
  unfold inOrder
  rw [List.mem_filter, List.mem_range, decide_eq_true_eq]
  exact ⟨fun h => h.2, fun h => ⟨by have := hk j h; omega, h⟩⟩
theorem ris_inOrder (mask : Nat) (ks : List Nat) : Ris (inOrder mask ks) := ris_range_filter _ _
theorem Ris.nodup {l : List Nat} (h : Ris l) : l.Nodup := List.Pairwise.imp (fun {a b} (q : a < b) => Nat.ne_of_lt q) h
theorem perm_inOrder {mask : Nat} (hm : 15 ≤ mask) {ks : List Nat} (hnd : ks.Nodup) (hk : ∀ k ∈ ks, k < 12) : (inOrder mask ks).Perm ks :=
  (List.perm_ext_iff_of_nodup (Ris.nodup (ris_inOrder _ _)) hnd).mpr fun j => mem_inOrder hm hk j
theorem laid_ok {mask : Nat} (hm : 15 ≤ mask) {ks : List Nat} (hnd : ks.Nodup) (hk : ∀ k ∈ ks, k < 12) {hs : Array Int} (eh : hs.toList = ks.map fun k => ((k : Nat) : Int)) (fi mo : Nat) (led plain : Bool) :
    SetTable.laid mask fi mo led plain hs = some ({ mask := mask, place := (inOrder mask ks).toArray, dummies := #[], finger := fi, led := led, moves := mo, plain := plain }, (ordOf mask ks).toArray) := by
  obtain ⟨owner, e1, e2⟩ := lay_clean hm hnd hk eh
  have e3 : ((List.range (mask + 1)).filterMap fun j => (owner.getD j none).map (j, ·)) = (inOrder mask ks).map fun j => (j, (pos ks 0 j).getD 0) := by
    unfold inOrder
    generalize List.range (mask + 1) = l
    induction l with
    | nil => rfl
    | cons a l ih =>
      rw [List.filterMap_cons, List.filter_cons, e2]
      by_cases h : a ∈ ks
      · obtain ⟨i, h1, _⟩ := pos_some (n := 0) h
        rw [h1, if_pos (by simpa using h), List.map_cons, h1, ← ih]
        rfl
      · rw [pos_none h, if_neg (by simpa using h), ← ih]
        rfl
  unfold SetTable.laid
  rw [e1]
  show some (({ mask := mask, place := (((List.range (mask + 1)).filterMap fun j => (owner.getD j none).map (j, ·)).map (·.1)).toArray, dummies := #[], finger := fi, led := led, moves := mo, plain := plain } : SetTable), (((List.range (mask + 1)).filterMap fun j => (owner.getD j none).map (j, ·)).map (·.2)).toArray) = _
  rw [e3, List.map_map, List.map_map]
  have e4 : (inOrder mask ks).map ((fun x : Nat × Nat => x.1) ∘ fun j => (j, (pos ks 0 j).getD 0)) = inOrder mask ks := List.map_id _
  rw [e4]
  rfl
end SU
end
section
set_option linter.all false
set_option maxRecDepth 100000
namespace SU
open PySem
/-- the elements of a set, their ints in order -/
inductive Ents : List (Int × Value) → List Nat → Prop where
  | nil : Ents [] []
  | cons {es : List (Int × Value)} {ks : List Nat} (k : Nat) (tok : Tok) (h : Ents es ks) : Ents ((((k : Nat) : Int), .int ((k : Nat) : Int) tok) :: es) (k :: ks)
theorem Ents.length : ∀ {es : List (Int × Value)} {ks : List Nat}, Ents es ks → es.length = ks.length
  | _, _, .nil => rfl
  | _, _, .cons k tok h => by rw [List.length_cons, List.length_cons, h.length]
theorem Ents.get : ∀ {es : List (Int × Value)} {ks : List Nat} {i k : Nat}, Ents es ks → ks[i]? = some k → ∃ tok, es[i]? = some (((k : Nat) : Int), .int ((k : Nat) : Int) tok)
  | _, _, i, k, .nil, e => by simp at e
  | _, _, 0, k, .cons a tok h, e => by simp at e; subst e; exact ⟨tok, rfl⟩
  | _, _, i + 1, k, .cons a tok h, e => Ents.get (i := i) h e
theorem Ents.hashes : ∀ {es : List (Int × Value)} {ks : List Nat}, Ents es ks → es.map (·.1) = ks.map fun k => ((k : Nat) : Int)
  | _, _, .nil => rfl
  | _, _, .cons k tok h => by rw [List.map_cons, List.map_cons, h.hashes]
theorem Ents.app : ∀ {es fs : List (Int × Value)} {ks ls : List Nat}, Ents es ks → Ents fs ls → Ents (es ++ fs) (ks ++ ls)
  | _, _, _, _, .nil, h => h
  | _, _, _, _, .cons k tok g, h => .cons k tok (g.app h)
theorem Ents.tk : ∀ {es : List (Int × Value)} {ks : List Nat} (n : Nat), Ents es ks → Ents (es.take n) (ks.take n)
  | _, _, 0, _ => by rw [List.take_zero, List.take_zero]; exact .nil
  | _, _, n + 1, .nil => .nil
  | _, _, n + 1, .cons k tok h => .cons k tok (h.tk n)
theorem Ents.dp : ∀ {es : List (Int × Value)} {ks : List Nat} (n : Nat), Ents es ks → Ents (es.drop n) (ks.drop n)
  | _, _, 0, h => h
  | _, _, n + 1, .nil => .nil
  | _, _, n + 1, .cons k tok h => h.dp n
theorem Ents.mem : ∀ {es : List (Int × Value)} {ks : List Nat} {e : Int × Value}, Ents es ks → e ∈ es → ∃ k tok, k ∈ ks ∧ e = (((k : Nat) : Int), .int ((k : Nat) : Int) tok)
  | _, _, _, .cons a tok h, q => by
    rcases List.mem_cons.mp q with rfl | q
    · exact ⟨a, tok, List.mem_cons_self, rfl⟩
    · obtain ⟨k, t, h1, h2⟩ := h.mem q
      exact ⟨k, t, List.mem_cons_of_mem _ h1, h2⟩
theorem Ents.picked {es : Array (Int × Value)} {ks : List Nat} (h : Ents es.toList ks) : ∀ {js : List Nat}, (∀ j ∈ js, j ∈ ks) → Ents ((js.map fun j => (pos ks 0 j).getD 0).filterMap fun i => es[i]?) js
  | [], _ => .nil
  | j :: js, hj => by
    obtain ⟨i, h1, h2⟩ := pos_some (n := 0) (hj j List.mem_cons_self)
    obtain ⟨tok, h3⟩ := h.get h2
    rw [List.map_cons, h1, List.filterMap_cons]
    have e : es[(some (0 + i)).getD 0]? = some (((j : Nat) : Int), Value.int ((j : Nat) : Int) tok) := by
      show es[0 + i]? = _
      rw [Nat.zero_add, ← Array.getElem?_toList]
      exact h3
    rw [e]
    exact .cons j tok (h.picked fun j' q => hj j' (List.mem_cons_of_mem _ q))
/-- what is held of a set's table: its elements' ints in order -/
structure TI (bt : Bool) (t : SetTable) (ks : List Nat) : Prop where
  dum : t.dummies = #[]
  pl : t.plain = true
  led : t.led = !bt
  ris : Ris t.place.toList
  sz : t.place.size = ks.length
  nd : ks.Nodup
  lt : ∀ k ∈ ks, k < 12
  ok : (t.mask = 7 ∧ ks.length ≤ 4 ∧ ∀ j ∈ t.place.toList, j ≤ 7) ∨ (15 ≤ t.mask ∧ t.place.toList = ks)
theorem small_len {ks : List Nat} (nd : ks.Nodup) (lt : ∀ k ∈ ks, k < 12) : ks.length ≤ 12 := by
  have h := perm_inOrder (mask := 15) (by decide) nd lt
  rw [← h.length_eq]
  have hs : (inOrder 15 ks) = (List.range 12).filter fun j => decide (j ∈ ks) := by
    refine ris_ext (ris_inOrder _ _) (ris_range_filter _ _) fun j => ?_
    rw [mem_inOrder (by decide) lt, List.mem_filter, List.mem_range, decide_eq_true_eq]
    exact ⟨fun q => ⟨lt j q, q⟩, fun q => q.2⟩
  rw [hs]
  exact Nat.le_trans (List.length_filter_le _ _) (by rw [List.length_range]; exact Nat.le_refl _)
theorem TI.len {bt : Bool} {t : SetTable} {ks : List Nat} (T : TI bt t ks) : ks.length ≤ 12 := small_len T.nd T.lt
theorem TI.fill {bt : Bool} {t : SetTable} {ks : List Nat} (T : TI bt t ks) : t.fill = ks.length := by
  unfold SetTable.fill
  rw [T.dum, T.sz]
  rfl
theorem TI.fits {bt : Bool} {t : SetTable} {ks : List Nat} (T : TI bt t ks) : t.fits ks.length = true := by
  unfold SetTable.fits
  rw [T.fill, T.sz]
  have := T.len
  rcases T.ok with ⟨a, b, _⟩ | ⟨a, _⟩ <;> simp <;> omega
theorem TI.fresh (bt : Bool) (fi mo : Nat) : TI bt (SetTable.fresh fi mo (!bt)) [] := ⟨rfl, rfl, rfl, List.Pairwise.nil, rfl, List.nodup_nil, fun k h => absurd h List.not_mem_nil, .inl ⟨rfl, Nat.zero_le _, fun j h => absurd h List.not_mem_nil⟩⟩
/-- a wide table laid anew -/
theorem TI.wide {bt : Bool} {mask : Nat} (hm : 15 ≤ mask) {ks : List Nat} (nd : ks.Nodup) (lt : ∀ k ∈ ks, k < 12) (fi mo : Nat) :
    TI bt { mask := mask, place := (inOrder mask ks).toArray, dummies := #[], finger := fi, led := !bt, moves := mo, plain := true } (inOrder mask ks) :=
  ⟨rfl, rfl, rfl, ris_inOrder _ _, rfl, Ris.nodup (ris_inOrder _ _), fun k h => lt k ((mem_inOrder hm lt k).mp h), .inr ⟨hm, rfl⟩⟩
theorem sizeAbove_small : ((List.range 64).filter (fun n => decide (8 ≤ n))).all (fun n => decide (15 ≤ SetTable.sizeAbove n - 1) && decide (SetTable.sizeAbove n ≤ 64)) = true := by decide +kernel
theorem sizeAbove_ok {n : Nat} (h1 : 8 ≤ n) (h2 : n < 64) : 15 ≤ SetTable.sizeAbove n - 1 ∧ SetTable.sizeAbove n ≤ 64 := by
  have := List.all_eq_true.mp sizeAbove_small n (List.mem_filter.mpr ⟨List.mem_range.mpr h2, by simpa using h1⟩)
  simpa using this
theorem relaid_ok {bt : Bool} {t : SetTable} {ks : List Nat} (hpl : t.plain = true) (hl : t.led = !bt) (nd : ks.Nodup) (lt : ∀ k ∈ ks, k < 12) {es : Array (Int × Value)} (E : Ents es.toList ks) {n : Nat} (h1 : 8 ≤ n) (h2 : n < 64) :
    ∃ t', t.relaid (es.map (·.1)) n = some (t', (ordOf (SetTable.sizeAbove n - 1) ks).toArray) ∧ TI bt t' (inOrder (SetTable.sizeAbove n - 1) ks) ∧
      Ents ((ordOf (SetTable.sizeAbove n - 1) ks).toArray.filterMap (es[·]?)).toList (inOrder (SetTable.sizeAbove n - 1) ks) := by
  obtain ⟨g1, g2⟩ := sizeAbove_ok h1 h2
  refine ⟨_, ?_, TI.wide g1 nd lt t.finger (t.movedTo (SetTable.sizeAbove n - 1)), ?_⟩
  · unfold SetTable.relaid
    rw [laid_ok g1 nd lt (by rw [Array.toList_map]; exact E.hashes), hpl, hl]
  · rw [Array.toList_filterMap]
    exact E.picked fun j hj => (mem_inOrder g1 lt j).mp hj
theorem TI.relay {bt : Bool} {t : SetTable} {ks : List Nat} (hpl : t.plain = true) (hl : t.led = !bt) (nd : ks.Nodup) (lt : ∀ k ∈ ks, k < 12) {es : Array (Int × Value)} (E : Ents es.toList ks) {n : Nat} (h1 : 8 ≤ n) (h2 : n < 64) :
    ∃ es' t' ks', relayAll t es n = (es', t', false) ∧ Ents es'.toList ks' ∧ TI bt t' ks' ∧ ∀ k, k ∈ ks' ↔ k ∈ ks := by
  obtain ⟨g1, g2⟩ := sizeAbove_ok h1 h2
  obtain ⟨t', e1, e2, e3⟩ := relaid_ok hpl hl nd lt E h1 h2
  refine ⟨_, t', _, ?_, e3, e2, fun k => mem_inOrder g1 lt k⟩
  unfold relayAll
  rw [e1]
  dsimp only
  have hsz : ((ordOf (SetTable.sizeAbove n - 1) ks).toArray.filterMap (es[·]?)).size = (inOrder (SetTable.sizeAbove n - 1) ks).length := by rw [← Array.length_toList, e3.length]
  have hc : coversAll (ordOf (SetTable.sizeAbove n - 1) ks).toArray es.size = true := by
    unfold coversAll
    rw [List.isPerm_iff]
    show (ordOf (SetTable.sizeAbove n - 1) ks).Perm _
    unfold ordOf
    refine ((perm_inOrder g1 nd lt).map _).trans ?_
    rw [pos_map nd, ← List.range_eq_range', ← E.length, Array.length_toList]
  rw [if_pos (by rw [hc, hsz, e2.fits]; rfl)]
/-- one int more -/
theorem TI.lay {bt : Bool} {t : SetTable} {ks : List Nat} (T : TI bt t ks) {es : Array (Int × Value)} (E : Ents es.toList ks) {k : Nat} (hk : k < 12) (hn : k ∉ ks) (tok : Tok) :
    ∃ es' t' ks', layNew t es ((k : Nat) : Int) (.int ((k : Nat) : Int) tok) = (es', t', false, false) ∧ Ents es'.toList ks' ∧ (∀ j, j ∈ ks' ↔ j ∈ ks ∨ j = k) ∧ ks'.length = ks.length + 1 ∧ ks'.Nodup ∧ t'.plain = true ∧ t'.led = !bt ∧ t'.fits ks'.length = true ∧ t'.fill = ks'.length ∧ t'.mask = t.mask ∧
      (TI bt t' ks' ∨ (ks'.length = 5 ∧ t'.mask = 7)) := by
  obtain ⟨j, hf, hj⟩ : ∃ j, t.freeSlot ((k : Nat) : Int) = some (j, false) ∧ ((t.mask = 7 ∧ ks.length ≤ 4 ∧ (∀ i ∈ t.place.toList, i ≤ 7) ∧ j ≤ 7 ∧ j ∉ t.place.toList) ∨ (15 ≤ t.mask ∧ t.place.toList = ks ∧ j = k)) := by
    rcases T.ok with ⟨a, b, c⟩ | ⟨a, b⟩
    · obtain ⟨j, h1, h2, h3⟩ := free_small T.dum a T.ris c (by rw [T.sz]; exact b) hk
      exact ⟨j, h1, .inl ⟨a, b, c, h2, h3⟩⟩
    · exact ⟨k, free_direct T.dum a T.ris hk (by rw [b]; exact hn), .inr ⟨a, b, rfl⟩⟩
  have hjn : j ∉ t.place.toList := by
    rcases hj with ⟨_, _, _, _, h⟩ | ⟨_, b, rfl⟩
    · exact h
    · rw [b]; exact hn
  have hb := (below_spec t.place j T.ris).1
  generalize hp : SetTable.below t.place j = p at hb
  have hE : Ents (SetTable.insertAt es p (((k : Nat) : Int), Value.int ((k : Nat) : Int) tok)).toList (ks.take p ++ k :: ks.drop p) := by
    rw [SetTable.toList_insertAt]
    exact (E.tk p).app (.cons k tok (E.dp p))
  have hmem : ∀ i, i ∈ ks.take p ++ k :: ks.drop p ↔ i ∈ ks ∨ i = k := fun i => by
    rw [List.mem_append, List.mem_cons]
    conv => rhs; rw [← List.take_append_drop p ks, List.mem_append]
    exact ⟨fun h => by rcases h with h | h | h; exact .inl (.inl h); exact .inr h; exact .inl (.inr h), fun h => by rcases h with (h | h) | h; exact .inl h; exact .inr (.inr h); exact .inr (.inl h)⟩
  have hperm : (ks.take p ++ k :: ks.drop p).Perm (k :: ks) := by
    refine List.perm_middle.trans (List.Perm.cons _ ?_)
    rw [List.take_append_drop]
  have hlen : (ks.take p ++ k :: ks.drop p).length = ks.length + 1 := by rw [hperm.length_eq]; rfl
  have hnd : (ks.take p ++ k :: ks.drop p).Nodup := hperm.nodup_iff.mpr (List.nodup_cons.mpr ⟨hn, T.nd⟩)
  have hput : t.put j = ({ t with place := SetTable.insertAt t.place p j }, p) := by
    unfold SetTable.put
    rw [hp, T.dum]
    have : SetTable.has #[] j = false := by rfl
    rw [this]
    rfl
  have hsz : (SetTable.insertAt t.place p j).size = ks.length + 1 := by
    rw [← Array.length_toList, (SetTable.insertAt_perm t.place p j).length_eq]
    simp [T.sz]
  have hris : Ris (SetTable.insertAt t.place p j).toList := by rw [← hp]; exact ris_insert T.ris hjn
  have hfill : ({ t with place := SetTable.insertAt t.place p j } : SetTable).fill = ks.length + 1 := by
    show (SetTable.insertAt t.place p j).size + t.dummies.size = _
    rw [hsz, T.dum]
    rfl
  have hl12 : ks.length + 1 ≤ 12 := by
    rw [← hlen]
    exact small_len hnd fun i hi => by rcases (hmem i).mp hi with h | h; exact T.lt i h; subst h; exact hk
  have hfits : ({ t with place := SetTable.insertAt t.place p j } : SetTable).fits (ks.length + 1) = true := by
    unfold SetTable.fits
    rw [hfill]
    show (decide ((SetTable.insertAt t.place p j).size = ks.length + 1) && decide (ks.length + 1 ≤ t.mask)) = true
    rw [hsz]
    rcases hj with ⟨a, b, _⟩ | ⟨a, _⟩ <;> simp <;> omega
  have hesz : (SetTable.insertAt es p (((k : Nat) : Int), Value.int ((k : Nat) : Int) tok)).size = ks.length + 1 := by rw [← Array.length_toList, hE.length, hlen]
  refine ⟨_, { t with place := SetTable.insertAt t.place p j }, _, ?_, hE, hmem, hlen, hnd, T.pl, T.led, by rw [hlen]; exact hfits, by rw [hlen]; exact hfill, rfl, ?_⟩
  · unfold layNew
    rw [hf]
    dsimp only
    rw [hput]
    dsimp only
    unfold SetTable.orStandIn
    rw [hesz, hfits]
    rfl
  · rcases hj with ⟨a, b, c, d, e⟩ | ⟨a, b, rfl⟩
    · by_cases h5 : ks.length = 4
      · exact .inr ⟨by rw [hlen, h5], a⟩
      · refine .inl ⟨T.dum, T.pl, T.led, hris, by rw [hlen]; exact hsz, hnd, fun i hi => ?_, .inl ⟨a, by rw [hlen]; omega, fun i hi => ?_⟩⟩
        · rcases (hmem i).mp hi with h | h
          · exact T.lt i h
          · subst h; exact hk
        · have := (SetTable.insertAt_perm t.place p j).mem_iff.mp hi
          rw [Array.toList_push, List.mem_append, List.mem_singleton] at this
          rcases this with h | h
          · exact c i h
          · subst h; exact d
    · refine .inl ⟨T.dum, T.pl, T.led, hris, by rw [hlen]; exact hsz, hnd, fun i hi => ?_, .inr ⟨a, ?_⟩⟩
      · rcases (hmem i).mp hi with h | h
        · exact T.lt i h
        · subst h; exact hk
      · show (SetTable.insertAt t.place p j).toList = _
        rw [SetTable.toList_insertAt, b]
end SU
end
section
set_option linter.all false
set_option maxRecDepth 100000
namespace SU
open PySem
theorem hash_small {k : Nat} (h : k < 12) : hashInt ((k : Nat) : Int) = ((k : Nat) : Int) := by
  match k, h with
  | 0, _ => rfl
  | 1, _ => rfl
  | 2, _ => rfl
  | 3, _ => rfl
  | 4, _ => rfl
  | 5, _ => rfl
  | 6, _ => rfl
  | 7, _ => rfl
  | 8, _ => rfl
  | 9, _ => rfl
  | 10, _ => rfl
  | 11, _ => rfl
/-- a set of small ints stands at a -/
def GS (bt nar : Bool) (a : Addr) (ks : List Nat) (h : Heap) : Prop := ∃ es ep t, h.get? a = some ({ cls := .type "set", dict := none, data := .set es ep t } : Obj) ∧ Ents es.toList ks ∧ TI bt t ks ∧ (nar = true → t.mask = 7 ∨ 5 ≤ ks.length)
theorem GS.keep {bt nar : Bool} {a : Addr} {ks : List Nat} {h h' : Heap} (G : GS bt nar a ks h) (k : ∀ o, h.get? a = some o → h'.get? a = some o) : GS bt nar a ks h' :=
  let ⟨es, ep, t, h1, h2, h3, h4⟩ := G
  ⟨es, ep, t, k _ h1, h2, h3, h4⟩
theorem GS.lt_size {bt nar : Bool} {a : Addr} {ks : List Nat} {h : Heap} (G : GS bt nar a ks h) : a < h.objs.size := let ⟨_, _, _, h1, _⟩ := G; Heap.lt_size h1
section
variable {prog : Program} {w : World} {A : Around} {E : Value → Shared → Prop} {s : Shared} {bt nar : Bool}
theorem Ents.elems {es : List (Int × Value)} {ks : List Nat} (h : Ents es ks) (lt : ∀ k ∈ ks, k < 12) : ElemsOf (intKind prog w) es := fun e he => by
  obtain ⟨k, tok, h1, rfl⟩ := h.mem he
  exact ⟨⟨((k : Nat) : Int), intKind_is prog w _ _, (hash_small (lt k h1)).symm⟩, rfl⟩
theorem Ents.found : ∀ {es : List (Int × Value)} {ks : List Nat} {k : Nat}, Ents es ks → (k ∈ ks ↔ ∃ j, es.findIdx? (fun e => (intKind prog w).is ((k : Nat) : Int) e.2) = some j)
  | _, _, k, .nil => by simp
  | _, _, k, .cons (es := es) a tok h => by
    rw [List.findIdx?_cons]
    by_cases e : k = a
    · subst e
      rw [intKind_is]
      simp
    · have : (intKind prog w).is ((k : Nat) : Int) (Value.int ((a : Nat) : Int) tok) = false := by
        cases q : (intKind prog w).is ((k : Nat) : Int) (Value.int ((a : Nat) : Int) tok) with
        | false => rfl
        | true => exact absurd (Int.ofNat.inj ((intKind prog w).inj _ _ _ q (intKind_is prog w _ _))) e
      rw [this]
      have ih := h.found (k := k)
      simp only [List.mem_cons, e, false_or, ih, Bool.false_eq_true, if_false]
      constructor
      · rintro ⟨j, q⟩; exact ⟨j + 1, by rw [q]; rfl⟩
      · rintro ⟨j, q⟩
        cases r : List.findIdx? (fun e : Int × Value => (intKind prog w).is ((k : Nat) : Int) e.2) es with
        | none => rw [r] at q; cases q
        | some j' => exact ⟨j', rfl⟩
theorem TI.sz_es {t : SetTable} {ks : List Nat} {es : Array (Int × Value)} (T : TI bt t ks) (h : Ents es.toList ks) : es.size = ks.length := by rw [← Array.length_toList]; exact h.length
theorem store_at {a : Addr} {es es' : Array (Int × Value)} {ep : Nat} {t t' : SetTable} {h : Heap} (ho : h.get? a = some ({ cls := .type "set", dict := none, data := .set es ep t } : Obj)) :
    (h.update a (Obj.putSet es' t')).get? a = some ({ cls := .type "set", dict := none, data := .set es' (ep + 1) t' } : Obj) := by
  have q := Heap.get?_update_self (Obj.putSet es' t') ho rfl
  exact q
/-- one int is put in -/
theorem wp_add {a : Addr} {ks : List Nat} {k : Nat} {tok : Tok} {Q : Bool → Shared → Prop} (G : GS bt nar a ks s.heap) (hk : k < 12)
    (h : ∀ (h' : Heap) (ks' : List Nat) (b : Bool), Heap.SameBut a s.heap h' → GS bt nar a ks' h' → (∀ j, j ∈ ks' ↔ j ∈ ks ∨ j = k) → Q b { s with heap := h' }) :
    wpAny (model prog w) A (setAddHashed a (.int ((k : Nat) : Int) tok) ((k : Nat) : Int)) Q E s := by
  obtain ⟨es, ep, t, ho, hE, T, hN⟩ := G
  have hsz := T.sz_es hE
  have hl := T.len
  have hel : ElemsOf (intKind prog w) es.toList := hE.elems T.lt
  have hfit : t.fits es.size = true := by rw [hsz]; exact T.fits
  have hbs : es.size < scanBound := by rw [hsz]; unfold scanBound; omega
  unfold setAddHashed setAddHashedIn
  refine wpAny_holding (wpAny_bind (wpAny_setState_of ho rfl hfit ?_))
  dsimp only
  rw [byScan_of (knd := intKind prog w) (x := Value.int ((k : Nat) : Int) tok) rfl hbs hel]
  simp only [↓reduceIte]
  unfold setAddByScan
  refine wpAny_bind (wpAny_bind (wpAny_rule ?_))
  have ehk : ((k : Nat) : Int) = (intKind prog w).hash ((k : Nat) : Int) := (hash_small hk).symm
  have scan : ∀ {R : ScanMet → Shared → Prop}, R (match es.toList.findIdx? (fun e => (intKind prog w).is ((k : Nat) : Int) e.2) with | some j => .found (0 + j) | none => .absent) s → wpAny (model prog w) A (setScan a (.int ((k : Nat) : Int) tok) ((k : Nat) : Int) true es) R E s := fun {R} hR => by
    have := wpAny_setScan_of (knd := intKind prog w) (A := A) (E := E) (adding := true) (Q := R) (intKind_is prog w ((k : Nat) : Int) tok) ho rfl hfit hel hR
    rw [← ehk] at this
    exact this
  refine wpAny_bind (scan ?_)
  cases hr : List.findIdx? (fun e => (intKind prog w).is ((k : Nat) : Int) e.2) es.toList with
  | some j =>
    dsimp only
    have hin : k ∈ ks := (hE.found (prog := prog) (w := w)).mpr ⟨j, hr⟩
    refine wpAny_pure (wpAny_pure ?_)
    have e : s = { s with heap := s.heap } := by cases s; rfl
    rw [e]
    exact h s.heap ks false (Heap.SameBut.refl a s.heap) ⟨es, ep, t, ho, hE, T, hN⟩ fun i => ⟨.inl, fun q => q.elim id fun q => q ▸ hin⟩
  | none =>
    dsimp only
    have hnot : k ∉ ks := fun q => by
      obtain ⟨j, hj⟩ := (hE.found (prog := prog) (w := w)).mp q
      rw [hr] at hj
      cases hj
    obtain ⟨es1, t1, ks1, eL, hE1, hm1, hn1, hd1, hp1, hl1, hf1, hfi1, hmk1, hT1⟩ := T.lay hE hk hnot tok
    rw [eL]
    dsimp only
    refine wpAny_bind (wpAny_pure ?_)
    rw [hp1]
    simp only [↓reduceIte]
    refine wpAny_bind ?_
    rw [hashByValue_scannable 8 (x := Value.int ((k : Nat) : Int) tok) rfl]
    refine wpAny_pure ?_
    show wpAny _ A _ _ _ s
    have hlt1 : ∀ i ∈ ks1, i < 12 := fun i hi => by rcases (hm1 i).mp hi with q | q; exact T.lt i q; subst q; exact hk
    have hlen1 : ks1.length ≤ 12 := small_len hd1 hlt1
    have hs1 : es1.size = ks1.length := by rw [← Array.length_toList]; exact hE1.length
    have hfits1 : es1.size ≤ sizeLine := by rw [hs1, sizeLine_eq]; omega
    simp only [plainKind, if_true]
    refine wpAny_bind (wpAny_storeSet_of ho rfl ?_ hfits1)
    have ho1 := store_at (es' := es1) (t' := t1) ho
    have sb1 := Heap.SameBut.update s.heap a (Obj.putSet es1 t1)
    by_cases hfull : (!false && t1.tooFull) = true
    · rw [if_pos hfull]
      have h9 : 5 ≤ ks1.length := by
        have e1 : t1.tooFull = true := by simpa using hfull
        unfold SetTable.tooFull at e1
        rw [hfi1] at e1
        have e2 := of_decide_eq_true e1
        rcases hT1 with T1 | ⟨a5, _⟩
        · rcases T1.ok with ⟨b1, _⟩ | ⟨b1, _⟩ <;> omega
        · omega
      have hg : SetTable.grown es1.size = ks1.length * 4 := by
        unfold SetTable.grown
        rw [if_neg (by omega), hs1]
      obtain ⟨es2, t2, ks2, eR, hE2, T2, hm2⟩ := TI.relay (bt := bt) hp1 hl1 hd1 hlt1 hE1 (n := SetTable.grown es1.size) (by rw [hg]; omega) (by rw [hg]; omega)
      rw [eR]
      dsimp only
      refine wpAny_bind (wpAny_pure ?_)
      have hs2 : es2.size = ks2.length := T2.sz_es hE2
      have := T2.len
      have hlen2 : ks1.length = ks2.length := ((List.perm_ext_iff_of_nodup hd1 T2.nd).mpr fun i => (hm2 i).symm).length_eq
      refine wpAny_bind (wpAny_storeSet_of ho1 rfl ?_ (by rw [hs2, sizeLine_eq]; omega))
      refine wpAny_pure (wpAny_pure ?_)
      exact h _ ks2 true (sb1.trans (Heap.SameBut.update _ a _)) ⟨es2, _, t2, store_at ho1, hE2, T2, fun _ => .inr (by rw [← hlen2]; exact h9)⟩ fun i => (hm2 i).trans (hm1 i)
    · rw [if_neg hfull]
      refine wpAny_pure (wpAny_pure ?_)
      rcases hT1 with T1 | ⟨a5, a7⟩
      · exact h _ ks1 true sb1 ⟨es1, _, t1, ho1, hE1, T1, fun q => by rcases hN q with q | q; exact .inl (hmk1.trans q); exact .inr (by omega)⟩ hm1
      · exfalso
        apply hfull
        show t1.tooFull = true
        unfold SetTable.tooFull
        rw [hfi1, a5, a7]
        decide
end
end SU
end
section
set_option linter.all false
set_option maxRecDepth 100000
namespace SU
open PySem PySem.Spec
section
variable {prog : Program} {w : World} {A : Around} {R : Result → Shared → Prop} {I : Addr} {fp wr : List Addr} {G : Array GenState → Array GenState → Prop} {n : Nat} {P : Nat → Value → Prop} {St : Nat → Shared → Prop} {bt nar : Bool}
theorem GS.moved {S : Addr} {ks : List Nat} {s s' : Shared} {wr : List Addr} (g : GS bt nar S ks s.heap) (hm : Moved wr G s s') (hw : S ∉ wr) : GS bt nar S ks s'.heap := g.keep fun o e => hm.heap S o hw e
/-- what an iterator gives is put into a set, one by one -/
theorem put_loop (W : WalksS prog w A.in1 I fp wr G n P St) {S : Addr} (hSf : S ∉ fp) {val : Nat → Nat} (hval : ∀ i v, P i v → val i < 12 ∧ ∃ t, v = Value.int ((val i : Nat) : Int) t) :
    ∀ (m i : Nat) (s : Shared) (ks : List Nat), n - i = m → i ≤ n → St i s → GS bt nar S ks s.heap → (∀ j, j ∈ ks ↔ ∃ q, q < i ∧ val q = j) →
      (∀ (s' : Shared) (ks' : List Nat), Moved (S :: wr) G s s' → GS bt nar S ks' s'.heap → (∀ j, j ∈ ks' ↔ ∃ q, q < n ∧ val q = j) → R (.ok (.ret .none)) s') →
      codeAny (model prog w) A (.builtin "set.update.loop" ⟨[.ref S, .ref I], []⟩) R s := by
  have nw : S ∉ wr := fun q => hSf (W.sub _ q)
  intro m
  induction m with
  | zero =>
    intro i s ks e0 hi hst g hks k
    obtain rfl : i = n := by omega
    refine codeAny_builtin PyProof.Rows.F.entry_set_update_loop ?_
    rw [Around.under_plainId PyProof.Rows.F.plain_set_update_loop _]
    show wpAny _ A.in1 (pyNext (.ref I) >>= _) _ _ s
    refine wpAny_bind (W.done s _ _ hst fun s' hm => ?_)
    show wpAny _ A.in1 (ret Value.none) _ _ s'
    exact wpAny_pure (k s' ks (hm.mono fun b q => List.mem_cons_of_mem _ q) (g.moved hm nw) hks)
  | succ m ih =>
    intro i s ks e0 hi hst g hks k
    have hlt : i < n := by omega
    refine codeAny_builtin PyProof.Rows.F.entry_set_update_loop ?_
    rw [Around.under_plainId PyProof.Rows.F.plain_set_update_loop _]
    show wpAny _ A.in1 (pyNext (.ref I) >>= _) _ _ s
    refine wpAny_bind (W.item i s _ _ hlt hst fun v s' hP hst' hm => ?_)
    obtain ⟨h12, t, rfl⟩ := hval i v hP
    have g1 := g.moved hm nw
    show wpAny _ A.in1 (holding [Value.int ((val i : Nat) : Int) t] (setAdd S (.int ((val i : Nat) : Int) t)) >>= _) _ _ s'
    refine wpAny_bind (wpAny_holding ?_)
    unfold setAdd
    refine wpAny_holding (wpAny_bind ((intKind prog w).pyHash (k := ((val i : Nat) : Int)) (intKind_is _ _ _ _) ?_))
    rw [show (intKind prog w).hash ((val i : Nat) : Int) = ((val i : Nat) : Int) from hash_small h12]
    refine wp_add (s := { s' with toks := s'.toks + 1 }) g1 h12 fun h' ks' b sb g2 hm2 => ?_
    refine wpAny_pure ⟨plainId_quiet PyProof.Rows.F.plain_set_update_loop _, ih (i + 1) _ ks' (by omega) hlt (W.frame _ s' _ _ hst' (Nat.le_succ _) fun b hb o e => ?_) g2 (fun j => ?_) fun s2 ks2 hm3 g3 hq => ?_⟩
    · rw [sb.2 b (fun q : b = S => hSf (q ▸ hb))]
      exact e
    · rw [hm2, hks]
      constructor
      · rintro (⟨q, h1, h2⟩ | rfl)
        · exact ⟨q, by omega, h2⟩
        · exact ⟨i, Nat.lt_succ_self _, rfl⟩
      · rintro ⟨q, h1, h2⟩
        by_cases e : q = i
        · exact .inr (by rw [← h2, e])
        · exact .inl ⟨q, by omega, h2⟩
    · refine k s2 ks2 (Moved.trans W.gtrans ((hm.mono fun b q => List.mem_cons_of_mem _ q).then_heap (Nat.le_succ _) fun b o hb e => ?_) hm3) g3 hq
      rw [sb.2 b (fun q : b = S => hb (by rw [q]; exact List.mem_cons_self))]
      exact e
end
end SU
namespace SU
open PySem
abbrev byText (w : World) : Bool := w.params.followText "set-order"
def freshSet (w : World) : Obj := { cls := .type "set", dict := none, data := .set #[] 0 (.fresh 0 0 (!byText w)) }
theorem gs_fresh {w : World} {h : Heap} {a : Addr} (e : h.get? a = some (freshSet w)) : GS (byText w) true a [] h := ⟨#[], 0, _, e, .nil, TI.fresh _ _ _, fun _ => .inl rfl⟩
section
variable {prog : Program} {w : World} {A : Around} {E : Value → Shared → Prop} {s : Shared}
theorem wp_newSet {Q : Value → Shared → Prop} (h : Q (.ref s.heap.objs.size) { s with heap := s.heap.push (freshSet w) }) : wpAny (model prog w) A (newSet (.type "set")) Q E s := by
  unfold newSet setsByText
  refine wpAny_bind (wpAny_bind (wpAny_askSetting (wpAny_pure ?_)))
  dsimp only
  unfold newObj
  exact wpAny_bind (wpAny_alloc (wpAny_pure h))
theorem code_new {a : Value} {Q₁ : Value → Shared → Prop} (h : Q₁ (.ref s.heap.objs.size) { s with heap := s.heap.push (freshSet w) }) :
    codeAny (model prog w) A (.call (.builtin "set.__new__") ⟨[.type "set", a], []⟩) (wants Q₁ E) s := by
  refine codeAny_of_tree ?_
  show wpAny _ A.in1 (checkBuiltinCall "set.__new__" ⟨[.type "set", a], []⟩ >>= fun _ => again (.builtin "set.__new__" ⟨[.type "set", a], []⟩)) _ _ s
  refine wpAny_bind (wpAny_of_eq (F.newCall_set_1 a) (wpAny_pure ⟨plainId_quiet F.plain_set_new _, codeAny_builtin F.entry_set_new ?_⟩))
  rw [Around.under_plainId F.plain_set_new _]
  unfold Builtin.«set.__new__» Builtin.Frozenset.newClass
  have hsub := sub_set_self
  obtain ⟨hp, g, d, tk, os⟩ := s
  dsimp only
  wp_walk
  refine wpAny_askSetting (wpAny_pure ?_)
  dsimp only
  simp only [newObj]
  exact wpAny_bind (wpAny_alloc (wpAny_pure (wpAny_pure h)))
end
end SU
end
section
set_option linter.all false
set_option maxRecDepth 100000
namespace SU
open PySem PySem.Spec
section
variable {prog : Program} {w : World} {A : Around} {E : Value → Shared → Prop} {s : Shared}
set_option maxHeartbeats 3200000 in
theorem set_of_list {l : Addr} {its : Array Value} {ns : List Nat} {Q : Value → Shared → Prop} (hh : A.handled = none) (hl : s.heap.IsList l its) (hi : PyProof.Rows.IntsAre its.toList (ns.map fun k => ((k : Nat) : Int))) (h12 : ∀ k ∈ ns, k < 12)
    (h : ∀ (h' : Heap) (tk : Nat) (ks : List Nat), GS (byText w) true s.heap.objs.size ks h' → (∀ j, j ∈ ks ↔ j ∈ ns) → (∀ b o, s.heap.get? b = some o → h'.get? b = some o) → Q (.ref s.heap.objs.size) { s with heap := h', toks := tk }) :
    wpAny (model prog w) A (call (.type "set") [.ref l]) Q E s := by
  obtain ⟨c, tl, hmro⟩ := F.called_set.mro
  have hmade := F.called_set.made
  have hsub := F.called_set.sub
  refine wpAny_call (codeAny_of_tree ?_)
  show wpAny _ _ (callAny (.type "set") _) _ _ _
  refine wpAny_pure ⟨Code.quiet_builtin _ (by decide +kernel), codeAny_builtin F.entry_type_call ?_⟩
  rw [Around.under_plain (weight_type_call_type "set" [.ref l] []) rfl]
  have n1 := F.called_set.notType
  have n2 := F.called_set.canCreate
  have n3 := F.typeCall_set_1 (.ref l)
  repeat (any_goals (first | assumption | wp_step))
  refine codeAny_mono (code_new (a := .ref l) (E := E) (Q₁ := fun ob s1 => ob = .ref s.heap.objs.size ∧ s1 = { s with heap := s.heap.push (freshSet w) }) ⟨rfl, rfl⟩) fun r s1 hr => ?_
  cases r with
  | error e => exact hr
  | ok fl =>
    cases fl with
    | ret ob =>
      obtain ⟨rfl, rfl⟩ := hr
      have gS : (s.heap.push (freshSet w)).get? s.heap.objs.size = some (freshSet w) := Heap.get?_push_size _ rfl
      have gT : Shared.TypeIs { s with heap := s.heap.push (freshSet w) } (.ref s.heap.objs.size) "set" := ⟨_, gS, rfl⟩
      have g1 := F.called_set.init.lookup
      have g2 := F.called_set.init.bind (.ref s.heap.objs.size)
      repeat (any_goals (first | assumption | wp_step))
      refine codeAny_mono (codeAny_call_builtin (R := wants (fun r s2 => r = .none ∧ ∃ h' tk ks, s2 = { s with heap := h', toks := tk } ∧ GS (byText w) true s.heap.objs.size ks h' ∧ (∀ j, j ∈ ks ↔ j ∈ ns) ∧ (∀ b o, s.heap.get? b = some o → h'.get? b = some o)) E)
        F.called_set.init.plain F.entry_set_init (check_set_init_1 gT ?_)) fun r2 s2 hr2 => ?_
      · obtain ⟨ol, hol, hcl, nl, hdl⟩ := hl
        obtain ⟨ocls, odict, odata, oslots⟩ := ol
        simp only at hcl hdl
        subst hcl; subst hdl
        have gl : (s.heap.push (freshSet w)).get? l = some { cls := .type "list", dict := odict, data := .seq its nl, slots := oslots } := Heap.get?_push_of_some _ hol
        have m1 := F.sub_list_set
        have m2 := F.sub_list_frozenset
        have m3 : (Value.type "list" == Value.type "dict") = false := by decide
        have gL : (s.heap.push (freshSet w)).IsList l its := ⟨_, gl, rfl, nl, rfl⟩
        unfold Builtin.«set.__init__» noKeywords Builtin.Frozenset.updateFrom
        generalize hPI : pyIter = PI
        wp_walk
        subst hPI
        refine wpAny_pyIter_list gL ?_
        refine wpAny_bind (wpAny_runValue ?_)
        have lS : l < s.heap.objs.size := Heap.lt_size hol
        have hh3 : A.in1.in1.in1.handled = none := by simp [hh]
        have lI : l ≠ (s.heap.push (freshSet w)).objs.size := by rw [Heap.size_push]; exact Nat.ne_of_lt (Nat.lt_succ_of_lt lS)
        have SI : s.heap.objs.size ∉ [(s.heap.push (freshSet w)).objs.size, l] := by
          rw [Heap.size_push]
          simp only [List.mem_cons, List.not_mem_nil, or_false, not_or]
          exact ⟨Nat.ne_of_lt (Nat.lt_succ_self _), Nat.ne_of_gt lS⟩
        have hsz : its.size = ns.length := by
          have := PyProof.Rows.IntsAre.length hi
          rw [List.length_map, Array.length_toList] at this
          exact this
        have hval : ∀ (i : Nat) (v : Value), its[i]? = some v → ns.getD i 0 < 12 ∧ ∃ t, v = Value.int ((ns.getD i 0 : Nat) : Int) t := fun i v hv => by
          have hlt : i < ns.length := by rw [← hsz]; exact (Array.getElem?_eq_some_iff.mp hv).1
          obtain ⟨t, e⟩ := PyProof.Rows.IntsAre.int_at hi i v (by rw [Array.getElem?_toList]; exact hv)
          have e2 : ns.getD i 0 = ns[i] := by simp [List.getD, hlt]
          refine ⟨by rw [e2]; exact h12 _ (List.getElem_mem hlt), t, ?_⟩
          rw [e]
          congr 1
          simp [List.getD, hlt]
        refine put_loop (bt := byText w) ((Walks.list hh3 _ l lI its).toS) SI (val := fun i => ns.getD i 0) hval (its.size - 0) 0 _ [] (by omega) (Nat.zero_le _)
          ⟨⟨_, Heap.get?_push_size _ rfl, rfl, rfl⟩, (gL.push _)⟩ (gs_fresh (Heap.get?_push_of_some _ gS)) (fun j => ⟨fun q => absurd q List.not_mem_nil, fun ⟨_, q, _⟩ => absurd q (Nat.not_lt_zero _)⟩) fun s' ks' hm g' hks => ?_
        obtain ⟨h', a', d', tk', os'⟩ := s'
        have eg : a' = s.gens := hm.gens
        have ed : d' = s.drawn := hm.drawn
        have eo : os' = s.os := hm.os
        subst eg; subst ed; subst eo
        show wpAny _ _ _ _ _ _
        refine wpAny_pure ?_
        show wpAny _ _ (ret Value.none) _ _ _
        refine wpAny_pure ⟨rfl, h', tk', ks', rfl, g', fun j => ?_, fun b o e => ?_⟩
        · rw [hks, hsz]
          constructor
          · rintro ⟨q, h1, rfl⟩
            have e2 : ns.getD q 0 = ns[q] := by simp [List.getD, h1]
            show ns.getD q 0 ∈ ns
            rw [e2]
            exact List.getElem_mem h1
          · intro hj
            obtain ⟨q, h1, rfl⟩ := List.mem_iff_getElem.mp hj
            exact ⟨q, h1, by simp [List.getD, h1]⟩
        · have b0 : b < s.heap.objs.size := Heap.lt_size e
          have b1 : b ≠ s.heap.objs.size := Nat.ne_of_lt b0
          have b2 : b ≠ (s.heap.push (freshSet w)).objs.size := by rw [Heap.size_push]; exact Nat.ne_of_lt (Nat.lt_succ_of_lt b0)
          exact hm.heap b o (by simp only [List.mem_cons, List.not_mem_nil, or_false, not_or]; exact ⟨b1, b2⟩) (Heap.get?_push_of_some _ (Heap.get?_push_of_some _ e))
      · cases r2 with
        | error e => exact hr2
        | ok fl2 =>
          cases fl2 with
          | ret r =>
            obtain ⟨rfl, h', tk, ks, rfl, g', hks, hk'⟩ := hr2
            repeat (any_goals (first | assumption | wp_step))
            exact h _ _ ks g' hks hk'
          | _ => exact hr2.elim
    | _ => exact hr.elim
end
end SU
end
section
set_option linter.all false
set_option maxRecDepth 100000
namespace SU
open PySem PySem.Spec
/-! walking a set -/
theorem it_next : Slot "set_iterator" "__next__" "set_iterator.__next__" := .of (owner := "set_iterator") (n := "__next__") (by rw [typeLookup_type, builtinLookup_eq_fast]; kernel_rfl) (by decide +kernel) (by decide +kernel) (by decide +kernel) (by first | exact .inl (by decide +kernel) | exact .inr (by decide +kernel)) (by rw [isSubtype_type]; kernel_rfl)
theorem it_iter : Slot "set_iterator" "__iter__" "set_iterator.__iter__" := .of (owner := "set_iterator") (n := "__iter__") (by rw [typeLookup_type, builtinLookup_eq_fast]; kernel_rfl) (by decide +kernel) (by decide +kernel) (by decide +kernel) (by first | exact .inl (by decide +kernel) | exact .inr (by decide +kernel)) (by rw [isSubtype_type]; kernel_rfl)
theorem en_next : entryFor table "set_iterator.__next__" = some Builtin.«set_iterator.__next__» := entryFor_of_tree (by kernel_rfl)
theorem en_iiter : entryFor table "set_iterator.__iter__" = some Builtin.«dict_keyiterator.__iter__» := entryFor_alias (id' := "dict_keyiterator.__iter__") (by kernel_rfl) rfl (by decide +kernel) (by kernel_rfl)
theorem en_iter : entryFor table "set.__iter__" = some Builtin.«frozenset.__iter__» := entryFor_alias (id' := "frozenset.__iter__") (by kernel_rfl) rfl (by decide +kernel) (by kernel_rfl)
theorem en_or : entryFor table "set.__or__" = some Builtin.«frozenset.__or__» := entryFor_alias (id' := "frozenset.__or__") (by kernel_rfl) rfl (by decide +kernel) (by kernel_rfl)
theorem owner_it : Manifest.owners.lookup (String.ofList "rotareti_tes".toList.reverse) = some Manifest.sig_set_iterator := by kernel_rfl
theorem args_next (a : Value) : argsOk "set_iterator.__next__" ⟨[a], []⟩ := by
  unfold argsOk; rw [signature?_of (id := "set_iterator.__next__") (n := "__txen__".toList) (o := "rotareti_tes".toList) (by kernel_rfl) owner_it]; kernel_rfl
theorem args_iiter (a : Value) : argsOk "set_iterator.__iter__" ⟨[a], []⟩ := by
  unfold argsOk; rw [signature?_of (id := "set_iterator.__iter__") (n := "__reti__".toList) (o := "rotareti_tes".toList) (by kernel_rfl) owner_it]; kernel_rfl
/-- the order in which the elements are met -/
def met (w : World) (r : Addr) (ep : Nat) (es : Array (Int × Value)) : Array (Int × Value) := if byText w = true then pickOrder (w.params.setOrder r ep) es else es
theorem pick_go {α : Type} (next : Nat → Nat) : ∀ (f k : Nat) (left : List α) (out : Array α), left.length = f → (pickOrder.go next f k left out).toList.Perm (out.toList ++ left)
  | 0, k, left, out, h => by
    obtain rfl : left = [] := List.length_eq_zero_iff.mp h
    unfold pickOrder.go
    rw [List.append_nil]
  | f + 1, k, left, out, h => by
    unfold pickOrder.go
    have hlt : next k % left.length < left.length := Nat.mod_lt _ (by omega)
    rw [List.getElem?_eq_getElem hlt]
    dsimp only
    refine (pick_go next f (k + 1) _ _ (by rw [List.length_eraseIdx, if_pos hlt]; omega)).trans ?_
    rw [Array.toList_push, List.append_assoc]
    refine List.Perm.append_left _ ?_
    have e : left.eraseIdx (next k % left.length) = left.take (next k % left.length) ++ left.drop (next k % left.length + 1) := List.eraseIdx_eq_take_drop_succ ..
    have e2 : left = left.take (next k % left.length) ++ left[next k % left.length] :: left.drop (next k % left.length + 1) := by
      rw [List.getElem_cons_drop, List.take_append_drop]
    rw [e]
    conv => rhs; rw [e2]
    exact (show (left[next k % left.length] :: (left.take (next k % left.length) ++ left.drop (next k % left.length + 1))).Perm _ from List.perm_middle.symm)
theorem met_perm (w : World) (r : Addr) (ep : Nat) (es : Array (Int × Value)) : (met w r ep es).toList.Perm es.toList := by
  unfold met
  split
  · unfold pickOrder
    exact (pick_go _ _ _ _ _ (by simp)).trans (by simp)
  · exact .rfl
theorem met_size (w : World) (r : Addr) (ep : Nat) (es : Array (Int × Value)) : (met w r ep es).size = es.size := by
  rw [← Array.length_toList, (met_perm w r ep es).length_eq, Array.length_toList]
theorem Ents.perm {es es' : List (Int × Value)} (p : es'.Perm es) : ∀ {ks : List Nat}, Ents es ks → ∃ ks', Ents es' ks' ∧ ks'.Perm ks := by
  have p' := p.symm
  clear p
  induction p' with
  | nil => intro ks h; exact ⟨ks, h, .rfl⟩
  | cons x p ih =>
    intro ks h
    cases h with
    | cons k tok h =>
      obtain ⟨ks', h1, h2⟩ := ih h
      exact ⟨k :: ks', .cons k tok h1, h2.cons _⟩
  | swap x y l =>
    intro ks h
    cases h with
    | cons k tok h =>
      cases h with
      | cons k2 tok2 h => exact ⟨_, .cons k2 tok2 (.cons k tok h), List.Perm.swap ..⟩
  | trans p q ih1 ih2 =>
    intro ks h
    obtain ⟨k1, h1, q1⟩ := ih1 h
    obtain ⟨k2, h2, q2⟩ := ih2 h1
    exact ⟨k2, h2, q2.trans q1⟩
def setObj (es : Array (Int × Value)) (ep : Nat) (t : SetTable) : Obj := { cls := .type "set", dict := none, data := .set es ep t }
def itObj (slot i : Nat) (r : Addr) (n ep : Nat) : Obj := { cls := .type "set_iterator", data := .fields #[.int ((slot : Nat) : Int) 0, .int ((i : Nat) : Int) 0, .ref r, .int ((n : Nat) : Int) 0, .int ((ep : Nat) : Int) 0] }
section
variable {prog : Program} {w : World} {A : Around} {E : Value → Shared → Prop} {s : Shared} {r I : Addr} {es : Array (Int × Value)} {ep : Nat} {t : SetTable} {ks : List Nat}
theorem wp_byText {Q : Bool → Shared → Prop} (h : Q (byText w) s) : wpAny (model prog w) A setsByText Q E s := by
  unfold setsByText
  exact wpAny_bind (wpAny_askSetting (wpAny_pure h))
theorem wp_walk_set {Q : Array (Int × Value) → Shared → Prop} (ho : s.heap.get? r = some (setObj es ep t)) (hE : Ents es.toList ks) (T : TI (byText w) t ks) (h : Q (met w r ep es) s) : wpAny (model prog w) A (setWalk r) Q E s := by
  have hf : t.fits es.size = true := by rw [T.sz_es hE]; exact T.fits
  unfold setWalk
  refine wpAny_bind (wpAny_setState_of ho rfl hf ?_)
  dsimp only
  refine wpAny_bind (wp_byText ?_)
  unfold met at h
  by_cases hb : byText w = true
  · rw [if_pos hb] at h
    rw [if_pos hb]
    exact wpAny_bind (wpAny_askSetting (wpAny_pure h))
  · rw [if_neg hb] at h
    rw [if_neg hb]
    have hl : t.led = true := by rw [T.led]; simpa using hb
    refine wpAny_bind (wpAny_pure ?_)
    show wpAny _ _ (if (!t.plain && decide (es.size > 1)) = true then _ else _) _ _ _
    rw [T.pl, if_neg (by simp)]
    show wpAny _ _ ((if (!t.led && decide (es.size > 1)) = true then _ else _) >>= _) _ _ _
    rw [hl, if_neg (by simp)]
    exact wpAny_bind (wpAny_pure (wpAny_pure h))
end
end SU
end
section
set_option linter.all false
set_option maxRecDepth 100000
namespace SU
open PySem PySem.Spec
section
variable {prog : Program} {w : World} {A : Around} {E : Value → Shared → Prop} {s : Shared} {r I : Addr} {es : Array (Int × Value)} {ep : Nat} {t : SetTable} {ks : List Nat}
/-- the slot that is asked next: where nothing else rules -/
def SlotAt (w : World) (t : SetTable) (i slot : Nat) : Prop := byText w = false → SetTable.below t.place slot = i
theorem wp_setNext {Q : Option (Value × Nat) → Shared → Prop} {slot i : Nat} (ho : s.heap.get? r = some (setObj es ep t)) (hE : Ents es.toList ks) (T : TI (byText w) t ks) (hs : SlotAt w t i slot)
    (h1 : ∀ (x : Int × Value) (slot' : Nat), (met w r ep es)[i]? = some x → SlotAt w t (i + 1) slot' → Q (some (x.2, slot')) s) (h0 : (met w r ep es)[i]? = none → Q none s) : wpAny (model prog w) A (setNext r slot i ep) Q E s := by
  have hsz := T.sz_es hE
  have hf : t.fits es.size = true := by rw [hsz]; exact T.fits
  unfold setNext
  refine wpAny_bind (wpAny_setState_of ho rfl hf ?_)
  dsimp only
  refine wpAny_bind (wp_byText ?_)
  by_cases hb : byText w = true
  · rw [if_pos hb, if_neg (by simp)]
    refine wpAny_bind (wp_walk_set ho hE T (wpAny_pure ?_))
    cases e : (met w r ep es)[i]? with
    | none => exact h0 e
    | some x => exact h1 x slot e fun q => by rw [hb] at q; cases q
  · rw [if_neg hb]
    have hbf : byText w = false := by simpa using hb
    have hl : t.led = true := by rw [T.led, hbf]; rfl
    refine wpAny_bind (wpAny_pure ?_)
    show wpAny _ _ (if (!t.plain && decide (es.size > 1)) = true then _ else _) _ _ _
    rw [T.pl, if_neg (by simp)]
    show wpAny _ _ ((if (!t.led && !es.isEmpty) = true then _ else _) >>= _) _ _ _
    rw [hl, if_neg (by simp)]
    refine wpAny_bind (wpAny_pure ?_)
    have em : met w r ep es = es := by unfold met; rw [if_neg hb]
    rw [em] at h1 h0
    rw [hs hbf]
    cases e : es[i]? with
    | none =>
      dsimp only
      exact wpAny_pure (h0 e)
    | some x =>
      have hlt : i < t.place.size := by
        rw [T.sz, ← hsz]
        exact (Array.getElem?_eq_some_iff.mp e).1
      rw [Array.getElem?_eq_getElem hlt]
      dsimp only
      exact wpAny_pure (h1 x _ e fun _ => below_next T.ris (Array.getElem?_eq_getElem hlt))
/-- an iterator over the set at r, i elements given -/
def ItAt (w : World) (I r : Addr) (es : Array (Int × Value)) (ep : Nat) (t : SetTable) (i : Nat) (h : Heap) : Prop := ∃ slot, h.get? I = some (itObj slot i r es.size ep) ∧ SlotAt w t i slot
theorem ItAt.type {i : Nat} (h : ItAt w I r es ep t i s.heap) : s.TypeIs (.ref I) "set_iterator" := let ⟨_, h1, _⟩ := h; ⟨_, h1, rfl⟩
theorem size_ne {n : Nat} : (((n : Nat) : Int) != ((n : Nat) : Int)) = false := by simp
theorem wp_item {Q : Option Value → Shared → Prop} {i : Nat} {x : Int × Value} (ho : s.heap.get? r = some (setObj es ep t)) (hE : Ents es.toList ks) (T : TI (byText w) t ks) (hi : ItAt w I r es ep t i s.heap) (hx : (met w r ep es)[i]? = some x)
    (h : ∀ h' : Heap, ItAt w I r es ep t (i + 1) h' → Heap.SameBut I s.heap h' → Q (some x.2) { s with heap := h' }) : wpAny (model prog w) A (pyNext (.ref I)) Q E s := by
  have hf : t.fits es.size = true := by rw [T.sz_es hE]; exact T.fits
  have hT := hi.type
  obtain ⟨slot, hI, hs⟩ := hi
  unfold pyNext
  refine wpAny_bind (wpAny_attempt (wpAny_callSpecial?_slot (name := Str.ofString "__next__") hT it_next (wpAny_call_entry it_next hT en_next ?_ (args_next _))))
  show wpAny _ _ (fieldsOf (.ref I) >>= _) _ _ s
  refine wpAny_bind (wpAny_fieldsOf hI rfl ?_)
  show wpAny _ _ (setEntries r >>= _) _ _ s
  unfold setEntries
  refine wpAny_bind (wpAny_bind (wpAny_setState_of ho rfl hf (wpAny_pure ?_)))
  rw [size_ne]
  rw [if_neg Bool.false_ne_true]
  show wpAny _ _ (setNext r (((slot : Nat) : Int).toNat) (((i : Nat) : Int).toNat) (((ep : Nat) : Int).toNat) >>= _) _ _ s
  rw [Int.toNat_natCast, Int.toNat_natCast, Int.toNat_natCast]
  refine wpAny_bind (wp_setNext ho hE T hs (fun y slot' hy hs' => ?_) fun e => by rw [hx] at e; cases e)
  obtain rfl : x = y := Option.some.inj (hx.symm.trans hy)
  dsimp only
  refine wpAny_bind (wpAny_setField hI rfl (by simp) ?_)
  have g1 := Heap.get?_update_self (Obj.mapFields (·.setIfInBounds 0 (rawInt ((slot' : Nat) : Int)))) hI rfl
  refine wpAny_bind (wpAny_setField g1 rfl (by simp) (wpAny_pure ⟨x.2, rfl, wpAny_pure (h _ ⟨slot', ?_, hs'⟩ ((Heap.SameBut.update ..).trans (Heap.SameBut.update ..)))⟩))
  exact Heap.get?_update_self (Obj.mapFields (·.setIfInBounds 1 (rawInt (((i : Nat) : Int) + 1)))) g1 rfl
theorem wp_end {Q : Option Value → Shared → Prop} {i : Nat} (hh : A.handled = none) (ho : s.heap.get? r = some (setObj es ep t)) (hE : Ents es.toList ks) (T : TI (byText w) t ks) (hi : ItAt w I r es ep t i s.heap) (hx : (met w r ep es)[i]? = none)
    (h : ∀ h' : Heap, Heap.ExtBut I s.heap h' → Q none { s with heap := h' }) : wpAny (model prog w) A (pyNext (.ref I)) Q E s := by
  have hf : t.fits es.size = true := by rw [T.sz_es hE]; exact T.fits
  have hT := hi.type
  obtain ⟨slot, hI, hs⟩ := hi
  unfold pyNext
  refine wpAny_bind (wpAny_attempt (wpAny_callSpecial?_slot (name := Str.ofString "__next__") hT it_next (wpAny_call_entry it_next hT en_next ?_ (args_next _))))
  show wpAny _ _ (fieldsOf (.ref I) >>= _) _ _ s
  refine wpAny_bind (wpAny_fieldsOf hI rfl ?_)
  show wpAny _ _ (setEntries r >>= _) _ _ s
  unfold setEntries
  refine wpAny_bind (wpAny_bind (wpAny_setState_of ho rfl hf (wpAny_pure ?_)))
  rw [size_ne]
  rw [if_neg Bool.false_ne_true]
  show wpAny _ _ (setNext r (((slot : Nat) : Int).toNat) (((i : Nat) : Int).toNat) (((ep : Nat) : Int).toNat) >>= _) _ _ s
  rw [Int.toNat_natCast, Int.toNat_natCast, Int.toNat_natCast]
  refine wpAny_bind (wp_setNext ho hE T hs (fun y slot' hy hs' => by rw [hx] at hy; cases hy) fun _ => ?_)
  dsimp only
  refine wpAny_bind (wpAny_setField hI rfl (by simp) ?_)
  show wpAny _ _ (newExc (.type "StopIteration") [] >>= _) _ _ _
  refine wpAny_bind ?_
  simp only [newExc, newTuple]
  refine wpAny_bind (wpAny_newObj_type ?_ (by size_fits))
  refine wpAny_bind (m := firstArgMember _ _) (wpAny_of_eq (a := Value.none) (by first | rfl | (simp only [firstArgMember]; rfl)) ?_)
  refine wpAny_newObj_type ?_ (by size_fits)
  simp only [raiseNew]
  refine wpAny_bind (wpAny_handled ?_)
  rw [show A.in1.handled = none from hh]
  refine wpAny_bind (wpAny_pure (wpAny_throw ?_))
  refine wpAny_bind (wpAny_isInstance (T := "StopIteration") (b := true) ⟨_, Heap.get?_push_size _ rfl, rfl⟩ isSubtype_stop ?_)
  exact wpAny_pure (h _ (((Heap.SameBut.update ..).extBut.push _).push _))
theorem wp_iiter {Q : Value → Shared → Prop} {i : Nat} (hi : ItAt w I r es ep t i s.heap) (h : Q (.ref I) s) : wpAny (model prog w) A (pyIter (.ref I)) Q E s := by
  refine wpAny_pyIter_slot hi.type it_iter (wpAny_call_entry it_iter hi.type en_iiter ?_ (args_iiter _))
  show wpAny _ _ (ret (.ref I)) _ _ s
  exact wpAny_pure ⟨_, rfl, "set_iterator", _, hi.type, it_next.lookup, h⟩
theorem wp_iter {Q : Value → Shared → Prop} (ho : s.heap.get? r = some (setObj es ep t)) (hE : Ents es.toList ks) (T : TI (byText w) t ks) (h : Q (.ref s.heap.objs.size) { s with heap := s.heap.push (itObj 0 0 r es.size ep) }) : wpAny (model prog w) A (pyIter (.ref r)) Q E s := by
  have hf : t.fits es.size = true := by rw [T.sz_es hE]; exact T.fits
  have hT : s.TypeIs (.ref r) "set" := ⟨_, ho, rfl⟩
  refine wpAny_pyIter_slot hT PySem.F.slot_set_iter (wpAny_call_entry PySem.F.slot_set_iter hT en_iter ?_ (PySem.F.args_set_iter_1 _))
  unfold Builtin.«frozenset.__iter__»
  show wpAny _ _ (Builtin.Frozenset.sizeOf r >>= _) _ _ s
  unfold Builtin.Frozenset.sizeOf setEntries
  refine wpAny_bind (wpAny_bind (wpAny_bind (wpAny_setState_of ho rfl hf (wpAny_pure (wpAny_pure ?_)))))
  dsimp only
  unfold setDrawn
  refine wpAny_bind (wpAny_bind (wpAny_setState_of ho rfl hf ?_))
  dsimp only
  refine wpAny_bind (wp_byText (wpAny_pure ?_))
  have e : (!byText w && (!t.plain && decide (es.size > 1))) = false := by rw [T.pl]; simp
  show wpAny _ _ (if (!byText w && (!t.plain && decide (es.size > 1))) = true then _ else _) _ _ s
  rw [e, if_neg Bool.false_ne_true]
  refine wpAny_bind (wpAny_pure ?_)
  refine wpAny_bind (wpAny_setEpoch_of ho rfl hf ?_)
  refine wpAny_bind ?_
  unfold newFields
  refine wpAny_newObj_type (wpAny_pure ⟨_, rfl, "set_iterator", _, ⟨_, Heap.get?_push_size _ rfl, rfl⟩, it_next.lookup, h⟩) (by size_fits)
theorem wp_hint {Q : Bool → Shared → Prop} (hT : s.TypeIs (.ref r) "set") (h : Q false s) : wpAny (model prog w) A (Builtin.List.listLengthHint (.ref r)) Q E s := by
  unfold Builtin.List.listLengthHint
  refine wpAny_bind (wpAny_specialOf hT PySem.F.slot_set_len.lookup ?_)
  generalize hid : ("set.__len__" : String) = id0
  wp_delta
  rw [show splitId id0 = some ("set", "__len__") from by subst hid; decide +kernel]
  subst hid
  refine wpAny_bind (wpAny_isInstance (T := "set") (b := true) hT (by rw [isSubtype_type]; kernel_rfl) ?_)
  refine wpAny_ite_split (fun q => absurd q (by decide)) (fun _ => ?_)
  refine wpAny_ite_split (fun _ => ?_) (fun q => absurd (by decide +kernel) q)
  exact wpAny_bind (wpAny_typeOf hT (wpAny_pure h))
theorem walks_set (hh : A.handled = none) (hne : r ≠ I) (hE : Ents es.toList ks) (T : TI (byText w) t ks) :
    Walks prog w A I [I, r] [I] es.size (fun i v => ∃ x, (met w r ep es)[i]? = some x ∧ v = x.2) (fun i h => ItAt w I r es ep t i h ∧ h.get? r = some (setObj es ep t)) where
  sub := fun b hb => by simp at hb; simp [hb]
  frame := fun i h h' st hk => ⟨let ⟨slot, h1, h2⟩ := st.1; ⟨slot, hk I (by simp) _ h1, h2⟩, hk r (by simp) _ st.2⟩
  item := fun i s Q E hi st hQ => by
    have hlt : i < (met w r ep es).size := by rw [met_size]; exact hi
    refine wp_item st.2 hE T st.1 (Array.getElem?_eq_getElem hlt) fun h' it' sb => ?_
    exact hQ _ h' s.toks ⟨_, Array.getElem?_eq_getElem hlt, rfl⟩ ⟨it', (sb.2 r hne).trans st.2⟩ fun b o hb e => (sb.2 b fun q => hb (by simp [q])).trans e
  done := fun s Q E st hQ => wp_end hh st.2 hE T st.1 (Array.getElem?_eq_none (by rw [met_size]; exact Nat.le_refl _)) fun h' he => hQ h' s.toks fun b o hb e => he b o (fun q => hb (by simp [q])) e
  self := fun i s Q E st hQ => wp_iiter st.1 hQ
theorem src_set (hE : Ents es.toList ks) (T : TI (byText w) t ks) : PySem.W.KdlSrc prog w "set" r r es.size (fun i v => ∃ x, (met w r ep es)[i]? = some x ∧ v = x.2) (fun h => h.get? r = some (setObj es ep t)) where
  type := fun s h => ⟨_, h, rfl⟩
  there := fun h e => ⟨Heap.lt_size e, Heap.lt_size e⟩
  keep := fun h h' e k => k r (.inl rfl) _ e
  notList := by decide
  notTuple := by decide
  hint := fun A E s Q e hq => wp_hint ⟨_, e, rfl⟩ hq
  iter := fun A s hh e => ⟨_, _, (fun E Q hq => wp_iter e hE T hq), walks_set hh (Nat.ne_of_lt (Heap.lt_size e)) hE T, ⟨⟨0, Heap.get?_push_size _ rfl, fun _ => below_zero _ T.ris⟩, Heap.get?_push_of_some _ e⟩⟩
end
end SU
end
section
set_option linter.all false
set_option maxRecDepth 100000
namespace SU
open PySem PySem.Spec
section
variable {prog : Program} {w : World} {A : Around} {E : Value → Shared → Prop} {s : Shared} {bt nar : Bool} {a r o : Addr} {es : Array (Int × Value)} {ep : Nat} {t : SetTable} {ks : List Nat}
theorem TI.perm_len {t' : SetTable} {ks' : List Nat} (T : TI bt t ks) (T' : TI bt t' ks') (h : ∀ k, k ∈ ks' ↔ k ∈ ks) : ks'.length = ks.length := ((List.perm_ext_iff_of_nodup T'.nd T.nd).mpr h).length_eq
theorem wp_relay {Q : Unit → Shared → Prop} {n : Nat} (ho : s.heap.get? a = some (setObj es ep t)) (hE : Ents es.toList ks) (T : TI bt t ks) (h1 : 8 ≤ n) (h2 : n < 64)
    (h : ∀ (es' : Array (Int × Value)) (t' : SetTable) (ks' : List Nat), (s.heap.update a (Obj.putSet es' t')).get? a = some (setObj es' (ep + 1) t') → Ents es'.toList ks' → TI bt t' ks' → (∀ k, k ∈ ks' ↔ k ∈ ks) → 15 ≤ t'.mask → Q () { s with heap := s.heap.update a (Obj.putSet es' t') }) :
    wpAny (model prog w) A (setRelay a n) Q E s := by
  have hf : t.fits es.size = true := by rw [T.sz_es hE]; exact T.fits
  obtain ⟨g1, g2⟩ := sizeAbove_ok h1 h2
  obtain ⟨t', e1, T', E'⟩ := relaid_ok T.pl T.led T.nd T.lt hE h1 h2
  have hm : ∀ k, k ∈ inOrder (SetTable.sizeAbove n - 1) ks ↔ k ∈ ks := mem_inOrder g1 T.lt
  have hl := T.perm_len T' hm
  have hmask : 15 ≤ t'.mask := by
    rcases T'.ok with ⟨b1, b2, _⟩ | ⟨b1, _⟩
    · exfalso
      unfold SetTable.relaid at e1
      rw [laid_ok g1 T.nd T.lt (by rw [Array.toList_map]; exact hE.hashes)] at e1
      have := (Prod.mk.inj (Option.some.inj e1)).1
      rw [← this] at b1
      dsimp only at b1
      omega
    · exact b1
  unfold setRelay
  refine wpAny_bind (wpAny_setState_of ho rfl hf ?_)
  dsimp only
  rw [if_neg (by rw [sizeLine_eq]; omega), e1]
  refine wpAny_bind ?_
  have hsz : ((ordOf (SetTable.sizeAbove n - 1) ks).toArray.filterMap (es[·]?)).size = es.size := by rw [← Array.length_toList, E'.length, hl, ← T.sz_es hE]
  show wpAny _ _ (if (((ordOf (SetTable.sizeAbove n - 1) ks).toArray.filterMap (es[·]?)).size != es.size) = true then _ else _) _ _ _
  rw [hsz, if_neg (by simp)]
  refine wpAny_pure ?_
  have hle := T'.len
  refine wpAny_storeSet_of ho rfl (h _ t' _ (store_at ho) E' T' hm hmask) (by rw [hsz, T.sz_es hE, ← hl, sizeLine_eq]; omega)
theorem wp_room {Q : Unit → Shared → Prop} {m : Nat} (ho : s.heap.get? a = some (setObj es ep t)) (hE : Ents es.toList ks) (T : TI bt t ks) (hm : m ≤ 12)
    (h : ∀ (es' : Array (Int × Value)) (ep' : Nat) (t' : SetTable) (ks' : List Nat) (h' : Heap), Heap.SameBut a s.heap h' → h'.get? a = some (setObj es' ep' t') → Ents es'.toList ks' → TI bt t' ks' → (∀ k, k ∈ ks' ↔ k ∈ ks) →
      ((t'.mask = t.mask ∧ (ks.length + m) * 5 < t.mask * 3) ∨ 15 ≤ t'.mask) → Q () { s with heap := h' }) :
    wpAny (model prog w) A (setRoomFor a m) Q E s := by
  have hf : t.fits es.size = true := by rw [T.sz_es hE]; exact T.fits
  unfold setRoomFor
  refine wpAny_bind (wpAny_setState_of ho rfl hf ?_)
  dsimp only
  unfold SetTable.roomFor
  rw [T.fill, T.sz]
  have hl := T.len
  by_cases hc : (ks.length + m) * 5 ≥ t.mask * 3
  · rw [if_pos hc]
    dsimp only
    have h5 : 5 ≤ ks.length + m := by rcases T.ok with ⟨b, _⟩ | ⟨b, _⟩ <;> omega
    exact wp_relay ho hE T (by omega) (by omega) fun es' t' ks' g E' T' hk h15 => h es' _ t' ks' _ (Heap.SameBut.update _ _ _) g E' T' hk (.inr h15)
  · rw [if_neg hc]
    dsimp only
    have e : s = { s with heap := s.heap } := by cases s; rfl
    refine wpAny_pure ?_
    rw [e]
    exact h es ep t ks s.heap (Heap.SameBut.refl _ _) ho hE T (fun _ => Iff.rfl) (.inl ⟨rfl, by omega⟩)
/-- a set is put into an empty one -/
theorem wp_copy {Q : Unit → Shared → Prop} {kr : List Nat} (hne : r ≠ o) (Gr : GS (byText w) true r [] s.heap) (Go : GS (byText w) true o ks s.heap)
    (h : ∀ (h' : Heap) (ks' : List Nat), Heap.SameBut r s.heap h' → GS (byText w) false r ks' h' → (∀ k, k ∈ ks' ↔ k ∈ ks) → Q () { s with heap := h' }) :
    wpAny (model prog w) A (setMerge r o) Q E s := by
  obtain ⟨er, epr, tr, hr, hEr, Tr, Nr⟩ := Gr
  obtain ⟨eo, epo, to, ho, hEo, To, No⟩ := Go
  have hfo : to.fits eo.size = true := by rw [To.sz_es hEo]; exact To.fits
  have hso := To.sz_es hEo
  have hlo := To.len
  have hr7 : tr.mask = 7 := by rcases Nr rfl with q | q; exact q; exact absurd q (by decide)
  unfold setMerge
  rw [if_neg (by simpa using hne)]
  refine wpAny_bind (wpAny_setState_of ho rfl hfo ?_)
  dsimp only
  by_cases he : eo.isEmpty = true
  · rw [if_pos he]
    have e : s = { s with heap := s.heap } := by cases s; rfl
    refine wpAny_pure ?_
    rw [e]
    have hk : ks = [] := by
      have : eo.size = 0 := by simpa using he
      exact List.length_eq_zero_iff.mp (by omega)
    exact h s.heap [] (Heap.SameBut.refl _ _) ⟨er, epr, tr, hr, hEr, Tr, fun q => by cases q⟩ fun k => by rw [hk]
  · rw [if_neg he]
    refine wpAny_bind (wp_room hr hEr Tr (m := eo.size) (by omega) fun es' ep' t' ks' h' sb g' E' T' hk hmask => ?_)
    obtain rfl : ks' = [] := by
      cases ks' with
      | nil => rfl
      | cons x l => exact absurd ((hk x).mp List.mem_cons_self) List.not_mem_nil
    have hf' : t'.fits es'.size = true := by rw [T'.sz_es E']; exact T'.fits
    refine wpAny_bind (wpAny_setState_of (s := { s with heap := h' }) g' rfl hf' ?_)
    dsimp only
    have hfill : t'.fill = 0 := T'.fill
    have hle : eo.size ≤ sizeLine := by rw [hso, sizeLine_eq]; omega
    unfold SetTable.road
    rw [hfill, To.dum]
    rw [if_neg (by simp)]
    by_cases hmk : (t'.mask == to.mask && (#[] : Array Nat).isEmpty) = true
    · rw [if_pos hmk]
      dsimp only
      have em : t'.mask = to.mask := by simpa using hmk
      refine wpAny_storeSet_of (s := { s with heap := h' }) g' rfl ?_ hle
      refine h _ ks (sb.trans (Heap.SameBut.update _ _ _)) ⟨eo, _, _, store_at g', hEo, ?_, fun q => by cases q⟩ fun k => Iff.rfl
      exact ⟨rfl, by show (t'.plain && to.plain) = true; rw [T'.pl, To.pl]; rfl, by show (t'.led && to.led) = _; rw [T'.led, To.led, Bool.and_self], To.ris, To.sz, To.nd, To.lt, To.ok⟩
    · rw [if_neg hmk]
      dsimp only
      have h15 : 15 ≤ t'.mask := by
        rcases hmask with ⟨q1, q2⟩ | q
        · exfalso
          have l4 : ks.length ≤ 4 := by
            rw [hr7] at q2
            have : (0 + eo.size) * 5 < 21 := q2
            omega
          rcases No rfl with q | q
          · apply hmk
            rw [q1, hr7, q]
            rfl
          · omega
        · exact q
      have hlaid := laid_ok (mask := t'.mask) h15 To.nd To.lt (hs := eo.map (·.1)) (by rw [Array.toList_map]; exact hEo.hashes) t'.finger t'.moves (t'.led && to.led) (t'.plain && to.plain)
      rw [hlaid]
      have E2 : Ents ((ordOf t'.mask ks).toArray.filterMap (eo[·]?)).toList (inOrder t'.mask ks) := by
        rw [Array.toList_filterMap]
        exact hEo.picked fun j hj => (mem_inOrder h15 To.lt j).mp hj
      have hpl : (t'.plain && to.plain) = true := by rw [T'.pl, To.pl]; rfl
      have hld : (t'.led && to.led) = !byText w := by rw [T'.led, To.led, Bool.and_self]
      have TT : TI (byText w) { mask := t'.mask, place := (inOrder t'.mask ks).toArray, dummies := #[], finger := t'.finger, led := t'.led && to.led, moves := t'.moves, plain := t'.plain && to.plain } (inOrder t'.mask ks) := by
        rw [hpl, hld]
        exact TI.wide h15 To.nd To.lt _ _
      have hk2 : ∀ k, k ∈ inOrder t'.mask ks ↔ k ∈ ks := mem_inOrder h15 To.lt
      have hsz : ((ordOf t'.mask ks).toArray.filterMap (eo[·]?)).size = eo.size := by rw [← Array.length_toList, E2.length, To.perm_len TT hk2, hso]
      refine wpAny_bind ?_
      show wpAny _ _ (if (((ordOf t'.mask ks).toArray.filterMap (eo[·]?)).size != eo.size) = true then _ else _) _ _ _
      rw [hsz, if_neg (by simp)]
      refine wpAny_pure ?_
      refine wpAny_storeSet_of (s := { s with heap := h' }) g' rfl ?_ (by rw [hsz]; exact hle)
      exact h _ _ (sb.trans (Heap.SameBut.update _ _ _)) ⟨_, _, _, store_at g', E2, TT, fun q => by cases q⟩ hk2
end
end SU
end
section
set_option linter.all false
set_option maxRecDepth 100000
namespace SU
open PySem PySem.Spec
theorem sub_set : isSubtype (.type "set") (.type "set") = pure true := sub_set_self
section
variable {prog : Program} {w : World} {A : Around} {E : Value → Shared → Prop} {s : Shared} {bt nar : Bool} {a r o : Addr} {es : Array (Int × Value)} {ep : Nat} {t : SetTable} {ks : List Nat}
/-- a set is put into one that is not empty, one by one -/
theorem wp_merge {Q : Unit → Shared → Prop} {kr ko : List Nat} {id : String} (hne : r ≠ o) (Gr : GS (byText w) false r kr s.heap) (hkr : kr ≠ []) (Go : GS (byText w) true o ko s.heap)
    (h : ∀ (h' : Heap) (ks' : List Nat), Heap.SameBut r s.heap h' → GS (byText w) false r ks' h' → (∀ k, k ∈ ks' ↔ k ∈ kr ∨ k ∈ ko) → Q () { s with heap := h' }) :
    wpAny (model prog w) A (Builtin.Frozenset.merge id r o) Q E s := by
  obtain ⟨er, epr, tr, hr, hEr, Tr, Nr⟩ := Gr
  obtain ⟨eo, epo, to, ho, hEo, To, No⟩ := Go
  have hfo : to.fits eo.size = true := by rw [To.sz_es hEo]; exact To.fits
  have hso := To.sz_es hEo
  have hlo := To.len
  unfold Builtin.Frozenset.merge
  refine wpAny_bind (wpAny_setEpoch_of ho rfl hfo ?_)
  unfold setMerge
  rw [if_neg (by simpa using hne)]
  refine wpAny_bind (wpAny_setState_of ho rfl hfo ?_)
  dsimp only
  by_cases he : eo.isEmpty = true
  · rw [if_pos he]
    have e : s = { s with heap := s.heap } := by cases s; rfl
    refine wpAny_pure ?_
    rw [e]
    have hk : ko = [] := by
      have : eo.size = 0 := by simpa using he
      exact List.length_eq_zero_iff.mp (by omega)
    exact h s.heap kr (Heap.SameBut.refl _ _) ⟨er, epr, tr, hr, hEr, Tr, fun q => by cases q⟩ fun k => by rw [hk]; simp
  · rw [if_neg he]
    refine wpAny_bind (wp_room hr hEr Tr (m := eo.size) (by omega) fun es' ep' t' ks' h' sb g' E' T' hk hmask => ?_)
    have hf' : t'.fits es'.size = true := by rw [T'.sz_es E']; exact T'.fits
    have ho' : h'.get? o = some (setObj eo epo to) := (sb.2 o (Ne.symm hne)).trans ho
    refine wpAny_bind (wpAny_setState_of (s := { s with heap := h' }) g' rfl hf' ?_)
    dsimp only
    have hfill : t'.fill ≠ 0 := by
      rw [T'.fill, Tr.perm_len T' hk]
      exact fun q => hkr (List.length_eq_zero_iff.mp q)
    unfold SetTable.road
    rw [if_pos (by simpa using hfill)]
    dsimp only
    unfold setWalkUnseen
    refine wpAny_bind (wpAny_bind (wpAny_setState_of (s := { s with heap := h' }) ho' rfl hfo ?_))
    dsimp only
    refine wpAny_bind (wp_byText ?_)
    have hq : (byText w || to.led && to.plain || decide (eo.size ≤ 1)) = true := by
      rw [To.led, To.pl]
      cases byText w <;> rfl
    rw [if_pos hq]
    refine wp_walk_set (s := { s with heap := h' }) ho' hEo To ?_
    obtain ⟨km, hkm, pm⟩ := Ents.perm (met_perm w o epo eo) hEo
    refine wpAny_bind (PySem.MeetsSeq2.wpAny_forIn_array (s := { s with heap := h' }) _ (fun rest _ s1 => ∃ (h1 : Heap) (k1 kl : List Nat), s1 = { s with heap := h1 } ∧ Heap.SameBut r s.heap h1 ∧ GS (byText w) false r k1 h1 ∧ Ents rest kl ∧ (∀ k ∈ kl, k < 12) ∧ ∀ k, (k ∈ k1 ∨ k ∈ kl) ↔ (k ∈ kr ∨ k ∈ ko)) _ ?_ ?_ _ _ ?_)
    · rintro ⟨hx, x⟩ rest b s1 ⟨h1, k1, kl, rfl, sb1, G1, EL, lt, hmem⟩
      cases EL with
      | cons k tok EL =>
        rename_i kl
        have hk12 := lt k List.mem_cons_self
        refine wpAny_bind (wpAny_holding (wp_add (s := { s with heap := h1 }) G1 hk12 fun h2 k2 bb sb2 G2 hm2 => ?_))
        have go : h2.get? o = some (setObj eo epo to) := (sb2.2 o (Ne.symm hne)).trans ((sb1.2 o (Ne.symm hne)).trans ho)
        unfold Builtin.Frozenset.unchanged
        refine wpAny_bind (wpAny_bind (wpAny_setEpoch_of (s := { s with heap := h2 }) go rfl hfo ?_))
        rw [if_neg (by simp)]
        refine wpAny_pure ?_
        refine wpAny_bind (wpAny_setState_of (s := { s with heap := h2 }) go rfl hfo ?_)
        rw [if_neg (by simp)]
        refine wpAny_pure ⟨h2, k2, kl, rfl, sb1.trans sb2, G2, EL, fun k' hk' => lt k' (List.mem_cons_of_mem _ hk'), fun k' => ?_⟩
        rw [← hmem k', hm2 k', List.mem_cons]
        constructor
        · rintro ((q | q) | q)
          · exact .inl q
          · exact .inr (.inl q)
          · exact .inr (.inr q)
        · rintro (q | q | q)
          · exact .inl (.inl q)
          · exact .inl (.inr q)
          · exact .inr q
    · rintro b s1 ⟨h1, k1, kl, rfl, sb1, G1, EL, lt, hmem⟩
      cases EL
      refine wpAny_pure (h h1 k1 sb1 G1 fun k => ?_)
      rw [← hmem k]
      simp
    · exact ⟨h', ks', km, rfl, sb, ⟨es', ep', t', g', E', T', fun q => by cases q⟩, hkm, fun k hk' => To.lt k (pm.mem_iff.mp hk'), fun k => by rw [hk k, pm.mem_iff]⟩
theorem wp_anySet {Q : Bool → Shared → Prop} {v : Value} (hT : s.TypeIs v "set") (h : Q true s) : wpAny (model prog w) A (Builtin.Frozenset.isAnySet v) Q E s := by
  unfold Builtin.Frozenset.isAnySet
  refine wpAny_bind (wpAny_isInstance hT sub_set ?_)
  exact wpAny_pure h
/-- the union of two sets -/
theorem wp_union {Q : Value → Shared → Prop} {kl kr : List Nat} {l r : Addr} (hne : l ≠ r) (Gl : GS (byText w) true l kl s.heap) (hkl : kl ≠ []) (Gr : GS (byText w) true r kr s.heap)
    (h : ∀ (h' : Heap) (ks : List Nat), GS (byText w) false s.heap.objs.size ks h' → (∀ k, k ∈ ks ↔ k ∈ kl ∨ k ∈ kr) → (∀ b ob, s.heap.get? b = some ob → h'.get? b = some ob) → Q (.ref s.heap.objs.size) { s with heap := h' }) :
    wpAny (model prog w) A (binaryOp .BitOr (.ref l) (.ref r)) Q E s := by
  have hTl : s.TypeIs (.ref l) "set" := let ⟨_, _, _, q, _⟩ := Gl; ⟨_, q, rfl⟩
  have hTr : s.TypeIs (.ref r) "set" := let ⟨_, _, _, q, _⟩ := Gr; ⟨_, q, rfl⟩
  refine wpAny_binaryOp_same hTl hTr PySem.F.fills_set_or PySem.F.slot_set_or (wpAny_call_entry PySem.F.slot_set_or hTl en_or ?_ (PySem.F.args_set_or_2 _ _))
  unfold Builtin.«frozenset.__or__»
  wp_delta
  show wpAny _ _ ((Builtin.Frozenset.isAnySet (.ref l) <&&> Builtin.Frozenset.isAnySet (.ref r)) >>= _) _ _ s
  refine wpAny_bind (wpAny_bind (wp_anySet hTl ?_))
  show wpAny _ _ (Builtin.Frozenset.isAnySet (.ref r)) _ _ s
  refine wp_anySet hTr ?_
  rw [if_neg (by simp)]
  refine wpAny_bind (wpAny_pure ?_)
  refine wpAny_bind ?_
  wp_delta
  refine wpAny_bind ?_
  unfold Builtin.Frozenset.copyOf
  refine wpAny_bind ?_
  unfold Builtin.Frozenset.baseOf
  refine wpAny_bind (wpAny_isInstance hTl sub_set ?_)
  rw [if_pos rfl]
  refine wpAny_pure (wpAny_bind (wp_newSet ?_))
  refine wpAny_bind (wpAny_pure ?_)
  have gf : (s.heap.push (freshSet w)).get? s.heap.objs.size = some (freshSet w) := Heap.get?_push_size _ rfl
  have nl : s.heap.objs.size ≠ l := Nat.ne_of_gt Gl.lt_size
  have nr : s.heap.objs.size ≠ r := Nat.ne_of_gt Gr.lt_size
  refine wpAny_bind (wp_copy (s := { s with heap := s.heap.push (freshSet w) }) (kr := []) nl (gs_fresh gf) (Gl.keep fun ob q => Heap.get?_push_of_some _ q) fun h1 k1 sb1 G1 m1 => ?_)
  refine wpAny_pure ?_
  have Gr1 : GS (byText w) true r kr h1 := Gr.keep fun ob q => (sb1.2 r (Ne.symm nr)).trans (Heap.get?_push_of_some _ q)
  have hr1 : (Value.ref r != Value.ref l) = true := by
    have : ¬ (Value.ref r = Value.ref l) := fun q => hne (by injection q with q; exact q.symm)
    simpa using this
  rw [if_pos hr1]
  have hT1 : Shared.TypeIs { s with heap := h1 } (.ref r) "set" := let ⟨_, _, _, q, _⟩ := Gr1; ⟨_, q, rfl⟩
  have hk1 : k1 ≠ [] := by
    intro q
    subst q
    cases kl with
    | nil => exact hkl rfl
    | cons x xs => exact absurd ((m1 x).mpr List.mem_cons_self) List.not_mem_nil
  refine wpAny_bind (wpAny_pure ?_)
  refine wpAny_bind (wpAny_holding ?_)
  unfold Builtin.Frozenset.updateFrom
  refine wpAny_bind (wp_anySet hT1 ?_)
  rw [if_pos rfl]
  refine wpAny_bind (wpAny_pure ?_)
  refine wp_merge (s := { s with heap := h1 }) nr G1 hk1 Gr1 fun h2 k2 sb2 G2 m2 => ?_
  refine wpAny_pure (wpAny_pure ⟨_, rfl, nofun, h h2 k2 G2 (fun k => by rw [m2 k, m1 k]) fun b ob q => ?_⟩)
  have nb : b ≠ s.heap.objs.size := Nat.ne_of_lt (Heap.lt_size q)
  exact (sb2.2 b nb).trans ((sb1.2 b nb).trans (Heap.get?_push_of_some _ q))
end
end SU
end
section
set_option linter.all false
set_option maxRecDepth 100000
namespace SU
open PySem PySem.Spec PyProof.Rows
theorem Ents.ints : ∀ {es : List (Int × Value)} {ks : List Nat}, Ents es ks → IntsAre (es.map (·.2)) (ks.map fun k => ((k : Nat) : Int))
  | _, _, .nil => .nil
  | _, _, .cons k tok h => .cons _ tok h.ints
section
variable {prog : Program} {w : World} {A : Around} {E : Value → Shared → Prop} {s : Shared} {nar : Bool} {r : Addr} {ks : List Nat}
/-- what a source gives, collected: the list that takes it stands behind all that was -/
theorem wp_collect {n : Nat} {P : Nat → Value → Prop} {OK : Heap → Prop} {T : String} {d : Addr} {R : List Value → Shared → Prop} (K : PySem.W.KdlSrc prog w T r d n P OK) (hh : A.handled = none) (hok : OK s.heap) (hn : n ≤ sizeLine)
    (h : ∀ (h' : Heap) (tk : Nat) (acc : Array Value), (∀ b ob, s.heap.get? b = some ob → h'.get? b = some ob) → s.heap.objs.size < h'.objs.size → ItemsOf P acc n → R acc.toList { s with heap := h', toks := tk }) :
    wpAny (model prog w) A (collect (.ref r)) R E s := by
  have lt := K.there _ hok
  unfold collect
  refine wpAny_bind (wpAny_runValue (codeAny_builtin entry_proto_collect' ?_))
  rw [Around.under_plainId PySem.F.plain_proto_collect _]
  show wpAny _ A.in1 (newList [] >>= fun z => again (.builtin "list.__iadd__" ⟨[z, .ref r], []⟩)) _ _ s
  refine wpAny_bind (wpAny_newObj_type (wpAny_pure ⟨plainId_quiet PySem.F.plain_list_iadd _, codeAny_builtin entry_list_iadd' ?_⟩))
  rw [Around.under_plainId PySem.F.plain_list_iadd _]
  let z := s.heap.objs.size
  let s1 : Shared := { s with heap := s.heap.push { cls := .type "list", data := .seq ([] : List Value).toArray } }
  have e1 : s1.heap.get? z = some { cls := .type "list", data := .seq #[] } := Heap.get?_push_size _ rfl
  have key := PySem.W.kdl_extend (A := A) (s := s1)
    (R := fun q s' => ∃ (h' : Heap) (tk : Nat) (acc : Array Value) (c : Nat), q = .ok (.ret (.ref z)) ∧ s' = { s with heap := h', toks := tk } ∧ (∀ b ob, s.heap.get? b = some ob → h'.get? b = some ob) ∧ h'.get? z = some { cls := .type "list", dict := none, data := .seq acc c, slots := #[] } ∧ ItemsOf P acc n)
    K hh (K.keep _ _ hok fun b _ ob e => Heap.get?_push_of_some _ e) z (Nat.ne_of_gt lt.1) (Nat.ne_of_gt lt.2) (.ref z) 0 e1
    (fun h' tk acc c k1 k2 k3 => ⟨h', tk, acc, c, rfl, rfl, fun b ob e => k1 b ob (Nat.ne_of_lt (Heap.lt_size e)) (Heap.get?_push_of_some _ e), k2, k3⟩) hn
  refine wpAny_mono key (fun fin s' x => ?_) fun e s' x => ?_
  · cases fin with
    | done f =>
      obtain ⟨h', tk, acc, c, e, rfl, k1, k2, k3⟩ := x
      cases e
      show wpAny _ A (load z >>= _) _ _ _
      exact wpAny_bind (wpAny_load k2 (wpAny_pure (h h' tk acc k1 (Heap.lt_size k2) k3)))
    | again c1 =>
      refine ⟨x.1, codeAny_mono x.2 fun q s2 y => ?_⟩
      obtain ⟨h', tk, acc, c, rfl, rfl, k1, k2, k3⟩ := y
      show wpAny _ A (load z >>= _) _ _ _
      exact wpAny_bind (wpAny_load k2 (wpAny_pure (h h' tk acc k1 (Heap.lt_size k2) k3)))
  · obtain ⟨_, _, _, _, e', _⟩ := x
    cases e'
/-- sorted of a set of small ints -/
theorem wp_sorted {Q : Value → Shared → Prop} (hh : A.handled = none) (G : GS (byText w) nar r ks s.heap)
    (h : ∀ (h' : Heap) (tk : Nat) (D : Addr) (out : Array Value) (ep : Nat) (ns : List Int), (∀ b ob, s.heap.get? b = some ob → h'.get? b = some ob) → s.heap.objs.size ≤ D → h'.get? D = some { cls := .type "list", data := .seq out ep } → IntsAre out.toList ns →
      ns.Perm (ks.map fun k => ((k : Nat) : Int)) → ns.Pairwise (· ≤ ·) → Q (.ref D) { s with heap := h', toks := tk }) : wpAny (model prog w) A (call (.builtin "sorted") [.ref r]) Q E s := by
  obtain ⟨es, ep, t, ho, hE, T, _⟩ := G
  have hsz := T.sz_es hE
  have hlen := T.len
  have hn : es.size ≤ sizeLine := by rw [hsz, sizeLine_eq]; omega
  refine PySem.Calls.call_function_entry kind_sorted plain_sorted entry_sorted (args_sorted1 _) ?_
  unfold Builtin.«sorted»
  refine wpAny_bind (m := checkCount "sorted" 1 1 _) (wpAny_pure ?_)
  refine wpAny_bind (wp_collect (A := A.in1) (src_set (r := r) (ep := ep) hE T) hh ho hn fun h1 tk acc hk hle hacc => ?_)
  obtain ⟨km, hkm, pm⟩ := Ents.perm (met_perm w r ep es) hE
  have eacc : acc.toList = (met w r ep es).toList.map (·.2) := by
    refine List.ext_getElem? fun i => ?_
    rw [List.getElem?_map]
    by_cases hi : i < acc.size
    · obtain ⟨x, h1, h2⟩ := hacc.2 i acc[i] (Array.getElem?_eq_getElem hi)
      rw [Array.getElem?_toList, Array.getElem?_eq_getElem hi, Array.getElem?_toList, h1, h2]
      rfl
    · have g1 : acc[i]? = none := Array.getElem?_eq_none (by omega)
      have g2 : (met w r ep es)[i]? = none := Array.getElem?_eq_none (by rw [met_size, ← hacc.1]; omega)
      rw [Array.getElem?_toList, Array.getElem?_toList, g1, g2]
      rfl
  have hI : IntsAre acc.toList (km.map fun k => ((k : Nat) : Int)) := by rw [eacc]; exact hkm.ints
  have hl64 : acc.toList.length < 64 := by rw [hI.length, List.length_map, pm.length_eq]; omega
  refine wpAny_bind (wpAny_newList ?_ (by rw [sizeLine_eq]; omega))
  have hoL : (h1.push { cls := .type "list", data := .seq acc.toList.toArray }).get? h1.objs.size = some (seqObj "list" acc.toList.toArray 0) := Heap.get?_push_size _ rfl
  refine wpAny_bind (wpAny_holding (wpAny_call_entry slot_list_sort ⟨_, hoL, rfl⟩ entry_list_sort (list_sort_tree hoL hI hl64 fun out ns' a1 a2 a3 => ⟨_, rfl, ?_⟩) (args_list_sort _)))
  obtain ⟨ep', he'⟩ := sortedHeap_at (vs := acc.toList) (out := out) hoL
  exact wpAny_pure ⟨_, rfl, h _ tk h1.objs.size out ep' ns' (fun b ob q => by rw [sortedHeap_old (Nat.ne_of_lt (Heap.lt_size (hk b ob q))) (Nat.lt_of_lt_of_le (Heap.lt_size (hk b ob q)) (by rw [Heap.size_push]; exact Nat.le_succ _))]; exact Heap.get?_push_of_some _ (hk b ob q)) (Nat.le_of_lt hle) he' a1 (a2.trans (pm.map _)) a3⟩
end
end SU
end
section
set_option linter.all false
namespace Bl
open Kv342
/-! ### seconds in the heat -/
theorem sec_succ (k : Nat) : ∀ (s n : Nat), seconds k (s + 1) n = second (seconds k s n) k
  | 0, n => rfl
  | s + 1, n => by
    show seconds k (s + 1) (second n k) = _
    rw [sec_succ k s (second n k)]
    rfl
theorem second_int {n k : Nat} (h : k ≤ 1000) : ((second n k : Nat) : Int) = ((n : Nat) : Int) * (1000 - ((k : Nat) : Int)) / 1000 := by
  unfold second
  rw [Int.natCast_ediv, Int.natCast_mul, Int.natCast_sub h]
  rfl
theorem find_range {p : Nat → Bool} : ∀ {n i : Nat}, i < n → p i = true → (∀ j, j < i → p j = false) → (List.range n).find? p = some i
  | 0, i, h, _, _ => absurd h (Nat.not_lt_zero _)
  | n + 1, i, h, hp, hj => by
    rw [List.range_succ, List.find?_append]
    by_cases e : i < n
    · rw [find_range e hp hj]
      rfl
    · obtain rfl : i = n := by omega
      have : (List.range i).find? p = none := List.find?_eq_none.mpr fun j q => by rw [hj j (List.mem_range.mp q)]; exact Bool.false_ne_true
      rw [this, List.find?_cons, hp]
      rfl
theorem least_some {k limit n i : Nat} (h : i < 601) (hi : seconds k i n ≤ limit) (hj : ∀ j, j < i → ¬ seconds k j n ≤ limit) : least k limit n = some i :=
by
  unfold least
  exact find_range h (by simpa using hi) fun j q => by simpa using hj j q
theorem least_none {k limit n : Nat} (hj : ∀ j, j < 601 → ¬ seconds k j n ≤ limit) : least k limit n = none :=
by
  unfold least
  exact List.find?_eq_none.mpr fun j q => by simpa using hj j (List.mem_range.mp q)
theorem least_lt {k limit n i : Nat} (h : least k limit n = some i) : i < 601 := by
  unfold least at h
  exact List.mem_range.mp (List.mem_of_find?_eq_some h)
/-! ### sizes -/
theorem five {l : List Nat} (h : l.length = 5) : ∃ a b c d e, l = [a, b, c, d, e] := by
  match l, h with
  | [a, b, c, d, e], _ => exact ⟨a, b, c, d, e, rfl⟩
theorem under_eq {l : List Nat} (h : l.length = 5) {m : Nat} (h1 : 1 ≤ m) (h2 : m ≤ 4) : under l m = l.take m ++ List.replicate (5 - m) 0 := by
  obtain ⟨a, b, c, d, e, rfl⟩ := five h
  match m, h1, h2 with
  | 1, _, _ => rfl
  | 2, _, _ => rfl
  | 3, _, _ => rfl
  | 4, _, _ => rfl
theorem over_eq {l : List Nat} (h : l.length = 5) {m : Nat} (h1 : 1 ≤ m) (h2 : m ≤ 4) : over l m = List.replicate m 0 ++ l.drop m := by
  obtain ⟨a, b, c, d, e, rfl⟩ := five h
  match m, h1, h2 with
  | 1, _, _ => rfl
  | 2, _, _ => rfl
  | 3, _, _ => rfl
  | 4, _, _ => rfl
theorem under_len (l : List Nat) (m : Nat) : (under l m).length = 5 := rfl
theorem over_len (l : List Nat) (m : Nat) : (over l m).length = 5 := rfl
theorem added_len (l m : List Nat) : (added l m).length = 5 := rfl
theorem added_sum {l m : List Nat} (h : l.length = 5) (h' : m.length = 5) : (added l m).sum = l.sum + m.sum := by
  obtain ⟨a, b, c, d, e, rfl⟩ := five h
  obtain ⟨a', b', c', d', e', rfl⟩ := five h'
  show ([a + a', b + b', c + c', d + d', e + e'] : List Nat).sum = _
  simp
  omega
theorem parts_sum {l : List Nat} (h : l.length = 5) {m : Nat} (h1 : 1 ≤ m) (h2 : m ≤ 4) : (l.take m).sum = (under l m).sum ∧ (under l m).sum + (over l m).sum = l.sum := by
  obtain ⟨a, b, c, d, e, rfl⟩ := five h
  match m, h1, h2 with
  | 1, _, _ => show ([a] : List Nat).sum = ([a, 0, 0, 0, 0] : List Nat).sum ∧ ([a, 0, 0, 0, 0] : List Nat).sum + ([0, b, c, d, e] : List Nat).sum = ([a, b, c, d, e] : List Nat).sum; simp only [List.sum_cons, List.sum_nil]; omega
  | 2, _, _ => show ([a, b] : List Nat).sum = ([a, b, 0, 0, 0] : List Nat).sum ∧ ([a, b, 0, 0, 0] : List Nat).sum + ([0, 0, c, d, e] : List Nat).sum = ([a, b, c, d, e] : List Nat).sum; simp only [List.sum_cons, List.sum_nil]; omega
  | 3, _, _ => show ([a, b, c] : List Nat).sum = ([a, b, c, 0, 0] : List Nat).sum ∧ ([a, b, c, 0, 0] : List Nat).sum + ([0, 0, 0, d, e] : List Nat).sum = ([a, b, c, d, e] : List Nat).sum; simp only [List.sum_cons, List.sum_nil]; omega
  | 4, _, _ => show ([a, b, c, d] : List Nat).sum = ([a, b, c, d, 0] : List Nat).sum ∧ ([a, b, c, d, 0] : List Nat).sum + ([0, 0, 0, 0, e] : List Nat).sum = ([a, b, c, d, e] : List Nat).sum; simp only [List.sum_cons, List.sum_nil]; omega
theorem kg_up {s t b n : Nat} (h : s ≤ 50000 * 2 ^ b) (hb : b ≤ n) (ht : t ≤ s) : t ≤ 50000 * 2 ^ n :=
  Nat.le_trans ht (Nat.le_trans h (Nat.mul_le_mul_left _ (Nat.pow_le_pow_right (by decide) hb)))
theorem kg_two {s t b c n : Nat} (h : s ≤ 50000 * 2 ^ b) (h' : t ≤ 50000 * 2 ^ c) (hb : b < n) (hc : c < n) : s + t ≤ 50000 * 2 ^ n := by
  obtain ⟨m, rfl⟩ : ∃ m, n = m + 1 := ⟨n - 1, by omega⟩
  have h1 := kg_up h (n := m) (by omega) (Nat.le_refl _)
  have h2 := kg_up h' (n := m) (by omega) (Nat.le_refl _)
  rw [Nat.pow_succ]
  omega
theorem kg_lt {s j : Nat} (h : s ≤ 50000 * 2 ^ j) (hj : j < 40) : s < 18446744073709551616 := by
  have h1 := kg_up h (n := 40) (by omega) (Nat.le_refl _)
  have : (2 : Nat) ^ 40 = 1099511627776 := by decide
  rw [this] at h1
  omega
theorem five_le {l : List Nat} (h : l.length = 5) (ha : ∀ n ∈ l, n ≤ 10000) : l.sum ≤ 50000 := by
  obtain ⟨a, b, c, d, e, rfl⟩ := five h
  have h1 := ha a (by simp)
  have h2 := ha b (by simp)
  have h3 := ha c (by simp)
  have h4 := ha d (by simp)
  have h5 := ha e (by simp)
  simp only [List.sum_cons, List.sum_nil]
  omega
/-! ### first batches as bits -/
theorem has_bit (s k : Nat) : has s k = s.testBit k := by
  unfold has
  rw [Nat.testBit_eq_decide_div_mod_eq]
  cases h : decide (s / 2 ^ k % 2 = 1) <;> simp_all
def bitsOf (p : Nat → Bool) (n : Nat) : Nat := ((List.range n).filter p).foldl (fun n k => n + 2 ^ k) 0
theorem bitsOf_succ (p : Nat → Bool) (n : Nat) : bitsOf p (n + 1) = bitsOf p n + if p n = true then 2 ^ n else 0 := by
  unfold bitsOf
  rw [List.range_succ, List.filter_append, List.foldl_append]
  by_cases h : p n = true
  · rw [if_pos h, List.filter_cons, if_pos h]
    rfl
  · rw [if_neg h, List.filter_cons, if_neg h]
    rfl
theorem bitsOf_lt (p : Nat → Bool) : ∀ n, bitsOf p n < 2 ^ n
  | 0 => Nat.zero_lt_one
  | n + 1 => by
    have ih := bitsOf_lt p n
    rw [bitsOf_succ, Nat.pow_succ]
    split <;> omega
theorem bitsOf_has (p : Nat → Bool) : ∀ (n k : Nat), has (bitsOf p n) k = (decide (k < n) && p k)
  | 0, k => by
    rw [has_bit]
    show Nat.testBit 0 k = _
    rw [Nat.zero_testBit]
    simp
  | n + 1, k => by
    have ih := bitsOf_has p n k
    have hlt := bitsOf_lt p n
    rw [has_bit] at ih ⊢
    rw [bitsOf_succ]
    by_cases hk : k = n
    · subst hk
      by_cases h : p k = true
      · rw [if_pos h, Nat.add_comm, Nat.testBit_two_pow_add_eq, Nat.testBit_lt_two_pow hlt, h]
        simp
      · rw [if_neg h, Nat.add_zero, Nat.testBit_lt_two_pow hlt]
        simp [h]
    · have e1 : decide (k < n + 1) = decide (k < n) := by
        by_cases q : k < n
        · simp [q, Nat.lt_succ_of_lt q]
        · have : ¬ k < n + 1 := by omega
          simp [q, this]
      rw [e1, ← ih]
      by_cases h : p n = true
      · rw [if_pos h, Nat.add_comm]
        by_cases q : k < n
        · exact Nat.testBit_two_pow_add_gt q _
        · have hq : n < k := by omega
          rw [Nat.testBit_lt_two_pow (Nat.lt_of_lt_of_le hlt (Nat.pow_le_pow_right (by decide) (Nat.le_of_lt hq)))]
          refine Nat.testBit_lt_two_pow ?_
          have : 2 ^ (n + 1) ≤ 2 ^ k := Nat.pow_le_pow_right (by decide) hq
          rw [Nat.pow_succ] at this
          omega
      · rw [if_neg h, Nat.add_zero]
theorem bits_has (s t k : Nat) (h : k < 12) : has (bits s t) k = (has s k || has t k) := by
  have := bitsOf_has (fun k => has s k || has t k) 12 k
  rw [show bits s t = bitsOf (fun k => has s k || has t k) 12 from rfl, this]
  simp [h]
theorem pow_has (f k : Nat) : has (2 ^ f) k = decide (f = k) := by
  rw [has_bit, Nat.testBit_two_pow]
/-- the list of first batches that the bits tell -/
def rootsOf (s : Nat) : List Nat := (List.range 12).filter fun r => has s r
theorem ris_ext : ∀ {l m : List Nat}, l.Pairwise (· < ·) → m.Pairwise (· < ·) → (∀ k, k ∈ l ↔ k ∈ m) → l = m
  | [], [], _, _, _ => rfl
  | [], b :: m, _, _, h => absurd ((h b).mpr List.mem_cons_self) List.not_mem_nil
  | a :: l, [], _, _, h => absurd ((h a).mp List.mem_cons_self) List.not_mem_nil
  | a :: l, b :: m, h1, h2, h => by
    have h1' := List.pairwise_cons.mp h1
    have h2' := List.pairwise_cons.mp h2
    have e : a = b := by
      rcases List.mem_cons.mp ((h a).mp List.mem_cons_self) with q | q
      · exact q
      · rcases List.mem_cons.mp ((h b).mpr List.mem_cons_self) with r | r
        · exact r.symm
        · have := h1'.1 b r
          have := h2'.1 a q
          omega
    subst e
    congr 1
    refine ris_ext h1'.2 h2'.2 fun k => ⟨fun hk => ?_, fun hk => ?_⟩
    · rcases List.mem_cons.mp ((h k).mp (List.mem_cons_of_mem _ hk)) with q | q
      · subst q; have := h1'.1 k hk; omega
      · exact q
    · rcases List.mem_cons.mp ((h k).mpr (List.mem_cons_of_mem _ hk)) with q | q
      · subst q; have := h2'.1 k hk; omega
      · exact q
theorem roots_ris (s : Nat) : (rootsOf s).Pairwise (· < ·) := List.Pairwise.filter _ List.pairwise_lt_range
theorem mem_roots (s k : Nat) : k ∈ rootsOf s ↔ k < 12 ∧ has s k = true := by
  unfold rootsOf
  rw [List.mem_filter, List.mem_range]
theorem roots_bits {s t : Nat} {l : List Nat} (hl : l.Pairwise (· < ·)) (h : ∀ k, k ∈ l ↔ k ∈ rootsOf s ∨ k ∈ rootsOf t) : l = rootsOf (bits s t) := by
  refine ris_ext hl (roots_ris _) fun k => ?_
  rw [h, mem_roots, mem_roots, mem_roots]
  constructor
  · rintro (⟨a, b⟩ | ⟨a, b⟩)
    · exact ⟨a, by rw [bits_has _ _ _ a, b]; rfl⟩
    · exact ⟨a, by rw [bits_has _ _ _ a, b, Bool.or_true]⟩
  · rintro ⟨a, b⟩
    rw [bits_has _ _ _ a, Bool.or_eq_true] at b
    exact b.elim (fun q => .inl ⟨a, q⟩) fun q => .inr ⟨a, q⟩
theorem roots_first {f : Nat} (h : f < 12) : rootsOf (2 ^ f) = [f] := by
  refine ris_ext (roots_ris _) (by simp) fun k => ?_
  rw [mem_roots, pow_has, List.mem_singleton, decide_eq_true_eq]
  exact ⟨fun q => q.2.symm, fun q => ⟨q ▸ h, q.symm⟩⟩
end Bl
end
section
set_option linter.all false
set_option maxRecDepth 100000
namespace Bl
open Kv342
/-! ### the calls, one behind another -/
inductive IsCall : List Int → Kv342.Call → Prop where
  | begin_ (a : Nat) : IsCall [(0 : Int), ((a : Nat) : Int)] (.begin_ a)
  | warm (a b : Nat) : IsCall [(1 : Int), ((a : Nat) : Int), ((b : Nat) : Int)] (.warm a b)
  | batch (a : Nat) (l : List Nat) : IsCall ((2 : Int) :: ((a : Nat) : Int) :: ((l.length : Nat) : Int) :: l.map (fun k => ((k : Nat) : Int))) (.batch a l)
  | wash (a : Nat) : IsCall [(3 : Int), ((a : Nat) : Int)] (.wash a)
  | sieve (a b : Nat) : IsCall [(4 : Int), ((a : Nat) : Int), ((b : Nat) : Int)] (.sieve a b)
  | mix (a b : Nat) : IsCall [(5 : Int), ((a : Nat) : Int), ((b : Nat) : Int)] (.mix a b)
  | heat (a b c : Nat) : IsCall [(6 : Int), ((a : Nat) : Int), ((b : Nat) : Int), ((c : Nat) : Int)] (.heat a b c)
  | enough (a b : Nat) : IsCall [(7 : Int), ((a : Nat) : Int), ((b : Nat) : Int)] (.enough a b)
  | pack (a : Nat) : IsCall [(8 : Int), ((a : Nat) : Int)] (.pack a)
  | alive (a : Nat) : IsCall [(9 : Int), ((a : Nat) : Int)] (.alive a)
  | would (a b c : Nat) : IsCall [(10 : Int), ((a : Nat) : Int), ((b : Nat) : Int), ((c : Nat) : Int)] (.would a b c)
  | need (a b : Nat) : IsCall [(11 : Int), ((a : Nat) : Int), ((b : Nat) : Int)] (.need a b)
  | leaves (a b : Nat) : IsCall [(12 : Int), ((a : Nat) : Int), ((b : Nat) : Int)] (.leaves a b)
  | best (a : Nat) : IsCall [(13 : Int), ((a : Nat) : Int)] (.best a)
  | hotter (a b : Nat) : IsCall [(14 : Int), ((a : Nat) : Int), ((b : Nat) : Int)] (.hotter a b)
  | half (a : Nat) : IsCall [(15 : Int), ((a : Nat) : Int)] (.half a)
  | done (a : Nat) : IsCall [(16 : Int), ((a : Nat) : Int)] (.done a)
  | kg (a : Nat) : IsCall [(17 : Int), ((a : Nat) : Int)] (.kg a)
  | sizes (a : Nat) : IsCall [(18 : Int), ((a : Nat) : Int)] (.sizes a)
  | mean (a : Nat) : IsCall [(19 : Int), ((a : Nat) : Int)] (.mean a)
  | parts (a b : Nat) : IsCall [(20 : Int), ((a : Nat) : Int), ((b : Nat) : Int)] (.parts a b)
  | live : IsCall [(21 : Int)] .live
  | of_ (a : Nat) : IsCall [(22 : Int), ((a : Nat) : Int)] (.of_ a)
  | roots (a : Nat) : IsCall [(23 : Int), ((a : Nat) : Int)] (.roots a)
  | raw : IsCall [(24 : Int)] .raw
  | sums : IsCall [(25 : Int)] .sums
  | state : IsCall [(26 : Int)] .state
theorem split0 {p : Int} {n : Nat} {r : List Int} {c : List (List Int)} {t : List Int} (hs : PyKv342.shape p = some (n, 0)) (h : PyFlat.call PyKv342.shape (p :: r) = some (c, t)) : n ≤ r.length ∧ c = [p :: r.take n] ∧ t = r.drop n := by
  unfold PyFlat.call at h
  dsimp only at h
  rw [hs] at h
  dsimp only at h
  by_cases hl : r.length < n
  · rw [if_pos hl] at h
    cases h
  · rw [if_neg hl] at h
    have e := Option.some.inj h
    exact ⟨by omega, (Prod.mk.inj e).1.symm, (Prod.mk.inj e).2.symm⟩
theorem nn {lo hi x : Int} (h : PyInside.within 0 hi x = true) : x = ((x.toNat : Nat) : Int) := by
  unfold PyInside.within at h
  simp at h
  omega
theorem shape_le {p : Int} (h : PyKv342.shape p ≠ none) : 0 ≤ p ∧ p ≤ 26 := by
  by_cases h1 : 0 ≤ p ∧ p ≤ 26
  · exact h1
  · exfalso
    apply h
    unfold PyKv342.shape
    rw [if_neg (show ¬ p = 0 by omega), if_neg (show ¬ p = 1 by omega), if_neg (show ¬ p = 2 by omega), if_neg (show ¬ p = 3 by omega), if_neg (show ¬ p = 4 by omega), if_neg (show ¬ p = 5 by omega), if_neg (show ¬ p = 6 by omega), if_neg (show ¬ p = 7 by omega), if_neg (show ¬ p = 8 by omega), if_neg (show ¬ p = 9 by omega), if_neg (show ¬ p = 10 by omega), if_neg (show ¬ p = 11 by omega), if_neg (show ¬ p = 12 by omega), if_neg (show ¬ p = 13 by omega), if_neg (show ¬ p = 14 by omega), if_neg (show ¬ p = 15 by omega), if_neg (show ¬ p = 16 by omega), if_neg (show ¬ p = 17 by omega), if_neg (show ¬ p = 18 by omega), if_neg (show ¬ p = 19 by omega), if_neg (show ¬ p = 20 by omega), if_neg (show ¬ p = 21 by omega), if_neg (show ¬ p = 22 by omega), if_neg (show ¬ p = 23 by omega), if_neg (show ¬ p = 24 by omega), if_neg (show ¬ p = 25 by omega), if_neg (show ¬ p = 26 by omega)]
theorem nats_of : ∀ {l : List Int}, l.all (PyInside.within 0 65535) = true → l = (l.map Int.toNat).map fun k => ((k : Nat) : Int)
  | [], _ => rfl
  | x :: l, h => by
    rw [List.all_cons, Bool.and_eq_true] at h
    rw [List.map_cons, List.map_cons, ← nats_of h.2, ← nn (lo := 0) h.1]
theorem call_split {p : Int} {r : List Int} {c : List (List Int)} {t : List Int} (h : PyFlat.call PyKv342.shape (p :: r) = some (c, t)) (hb : PyInside.call PyKv342.bound c = true) :
    ∃ (sl : List Int) (cl : Kv342.Call), p :: r = sl ++ t ∧ IsCall sl cl ∧ Kv342Neutral.callOf (PyKv342.whole c) = some cl := by
  have hp : 0 ≤ p ∧ p ≤ 26 := shape_le fun q => by
    unfold PyFlat.call at h
    dsimp only at h
    rw [q] at h
    cases h
  obtain ⟨q, rfl⟩ : ∃ q : Nat, p = ((q : Nat) : Int) := ⟨p.toNat, by omega⟩
  match q, hp with
  | 0, _ =>
    obtain ⟨h1, rfl, rfl⟩ := split0 (n := 1) rfl h
    match r, h1, hb with
    | x :: r, _, hb =>
      have hb' : ((PyInside.within 0 4294967295 x && true) && true) = true := hb
      simp only [Bool.and_true, Bool.and_eq_true] at hb'
      refine ⟨_, _, ?_, IsCall.begin_ x.toNat, rfl⟩
      rw [← nn (lo := 0) hb']
      rfl
  | 1, _ =>
    obtain ⟨h1, rfl, rfl⟩ := split0 (n := 2) rfl h
    match r, h1, hb with
    | x :: y :: r, _, hb =>
      have hb' : ((PyInside.within 0 4294967295 x && (PyInside.within 0 4294967295 y && true)) && true) = true := hb
      simp only [Bool.and_true, Bool.and_eq_true] at hb'
      refine ⟨_, _, ?_, IsCall.warm x.toNat y.toNat, rfl⟩
      rw [← nn (lo := 0) hb'.1, ← nn (lo := 0) hb'.2]
      rfl
  | 2, _ =>
    unfold PyFlat.call at h
    dsimp only at h
    rw [show PyKv342.shape ((2 : Nat) : Int) = some (1, 1) from rfl] at h
    dsimp only at h
    match r, h, hb with
    | [], h, _ => cases h
    | [x], h, _ => cases h
    | x :: m :: r, h, hb =>
      rw [if_neg (by simp), show (x :: m :: r).drop 1 = m :: r from rfl] at h
      unfold PyFlat.rows PyFlat.row PyFlat.rows at h
      dsimp only at h
      by_cases hm : 0 ≤ m ∧ m.toNat ≤ r.length
      · rw [if_pos hm] at h
        dsimp only at h
        have e := Option.some.inj h
        obtain ⟨e1, e2⟩ := Prod.mk.inj e
        subst e1 e2
        have hb' : ((PyInside.within 0 4294967295 x && true) && ((decide (0 ≤ (r.take m.toNat).length) && decide ((r.take m.toNat).length ≤ 100) && (r.take m.toNat).all (PyInside.within 0 65535)) && true)) = true := hb
        simp only [Bool.and_true, Bool.and_eq_true] at hb'
        refine ⟨_, _, ?_, IsCall.batch x.toNat ((r.take m.toNat).map Int.toNat), rfl⟩
        rw [← nats_of hb'.2.2, ← nn (lo := 0) hb'.1, List.length_map, List.length_take, Nat.min_eq_left hm.2]
        have em : ((m.toNat : Nat) : Int) = m := by omega
        rw [em]
        show (2 : Int) :: x :: m :: r = (2 : Int) :: x :: m :: (r.take m.toNat ++ r.drop m.toNat)
        rw [List.take_append_drop]
      · rw [if_neg hm] at h
        cases h
  | 3, _ =>
    obtain ⟨h1, rfl, rfl⟩ := split0 (n := 1) rfl h
    match r, h1, hb with
    | x :: r, _, hb =>
      have hb' : ((PyInside.within 0 4294967295 x && true) && true) = true := hb
      simp only [Bool.and_true, Bool.and_eq_true] at hb'
      refine ⟨_, _, ?_, IsCall.wash x.toNat, rfl⟩
      rw [← nn (lo := 0) hb']
      rfl
  | 4, _ =>
    obtain ⟨h1, rfl, rfl⟩ := split0 (n := 2) rfl h
    match r, h1, hb with
    | x :: y :: r, _, hb =>
      have hb' : ((PyInside.within 0 4294967295 x && (PyInside.within 0 4294967295 y && true)) && true) = true := hb
      simp only [Bool.and_true, Bool.and_eq_true] at hb'
      refine ⟨_, _, ?_, IsCall.sieve x.toNat y.toNat, rfl⟩
      rw [← nn (lo := 0) hb'.1, ← nn (lo := 0) hb'.2]
      rfl
  | 5, _ =>
    obtain ⟨h1, rfl, rfl⟩ := split0 (n := 2) rfl h
    match r, h1, hb with
    | x :: y :: r, _, hb =>
      have hb' : ((PyInside.within 0 4294967295 x && (PyInside.within 0 4294967295 y && true)) && true) = true := hb
      simp only [Bool.and_true, Bool.and_eq_true] at hb'
      refine ⟨_, _, ?_, IsCall.mix x.toNat y.toNat, rfl⟩
      rw [← nn (lo := 0) hb'.1, ← nn (lo := 0) hb'.2]
      rfl
  | 6, _ =>
    obtain ⟨h1, rfl, rfl⟩ := split0 (n := 3) rfl h
    match r, h1, hb with
    | x :: y :: z :: r, _, hb =>
      have hb' : ((PyInside.within 0 4294967295 x && (PyInside.within 0 4294967295 y && (PyInside.within 0 4294967295 z && true))) && true) = true := hb
      simp only [Bool.and_true, Bool.and_eq_true] at hb'
      refine ⟨_, _, ?_, IsCall.heat x.toNat y.toNat z.toNat, rfl⟩
      rw [← nn (lo := 0) hb'.1, ← nn (lo := 0) hb'.2.1, ← nn (lo := 0) hb'.2.2]
      rfl
  | 7, _ =>
    obtain ⟨h1, rfl, rfl⟩ := split0 (n := 2) rfl h
    match r, h1, hb with
    | x :: y :: r, _, hb =>
      have hb' : ((PyInside.within 0 4294967295 x && (PyInside.within 0 4294967295 y && true)) && true) = true := hb
      simp only [Bool.and_true, Bool.and_eq_true] at hb'
      refine ⟨_, _, ?_, IsCall.enough x.toNat y.toNat, rfl⟩
      rw [← nn (lo := 0) hb'.1, ← nn (lo := 0) hb'.2]
      rfl
  | 8, _ =>
    obtain ⟨h1, rfl, rfl⟩ := split0 (n := 1) rfl h
    match r, h1, hb with
    | x :: r, _, hb =>
      have hb' : ((PyInside.within 0 4294967295 x && true) && true) = true := hb
      simp only [Bool.and_true, Bool.and_eq_true] at hb'
      refine ⟨_, _, ?_, IsCall.pack x.toNat, rfl⟩
      rw [← nn (lo := 0) hb']
      rfl
  | 9, _ =>
    obtain ⟨h1, rfl, rfl⟩ := split0 (n := 1) rfl h
    match r, h1, hb with
    | x :: r, _, hb =>
      have hb' : ((PyInside.within 0 4294967295 x && true) && true) = true := hb
      simp only [Bool.and_true, Bool.and_eq_true] at hb'
      refine ⟨_, _, ?_, IsCall.alive x.toNat, rfl⟩
      rw [← nn (lo := 0) hb']
      rfl
  | 10, _ =>
    obtain ⟨h1, rfl, rfl⟩ := split0 (n := 3) rfl h
    match r, h1, hb with
    | x :: y :: z :: r, _, hb =>
      have hb' : ((PyInside.within 0 4294967295 x && (PyInside.within 0 4294967295 y && (PyInside.within 0 4294967295 z && true))) && true) = true := hb
      simp only [Bool.and_true, Bool.and_eq_true] at hb'
      refine ⟨_, _, ?_, IsCall.would x.toNat y.toNat z.toNat, rfl⟩
      rw [← nn (lo := 0) hb'.1, ← nn (lo := 0) hb'.2.1, ← nn (lo := 0) hb'.2.2]
      rfl
  | 11, _ =>
    obtain ⟨h1, rfl, rfl⟩ := split0 (n := 2) rfl h
    match r, h1, hb with
    | x :: y :: r, _, hb =>
      have hb' : ((PyInside.within 0 4294967295 x && (PyInside.within 0 4294967295 y && true)) && true) = true := hb
      simp only [Bool.and_true, Bool.and_eq_true] at hb'
      refine ⟨_, _, ?_, IsCall.need x.toNat y.toNat, rfl⟩
      rw [← nn (lo := 0) hb'.1, ← nn (lo := 0) hb'.2]
      rfl
  | 12, _ =>
    obtain ⟨h1, rfl, rfl⟩ := split0 (n := 2) rfl h
    match r, h1, hb with
    | x :: y :: r, _, hb =>
      have hb' : ((PyInside.within 0 4294967295 x && (PyInside.within 0 4294967295 y && true)) && true) = true := hb
      simp only [Bool.and_true, Bool.and_eq_true] at hb'
      refine ⟨_, _, ?_, IsCall.leaves x.toNat y.toNat, rfl⟩
      rw [← nn (lo := 0) hb'.1, ← nn (lo := 0) hb'.2]
      rfl
  | 13, _ =>
    obtain ⟨h1, rfl, rfl⟩ := split0 (n := 1) rfl h
    match r, h1, hb with
    | x :: r, _, hb =>
      have hb' : ((PyInside.within 0 4294967295 x && true) && true) = true := hb
      simp only [Bool.and_true, Bool.and_eq_true] at hb'
      refine ⟨_, _, ?_, IsCall.best x.toNat, rfl⟩
      rw [← nn (lo := 0) hb']
      rfl
  | 14, _ =>
    obtain ⟨h1, rfl, rfl⟩ := split0 (n := 2) rfl h
    match r, h1, hb with
    | x :: y :: r, _, hb =>
      have hb' : ((PyInside.within 0 4294967295 x && (PyInside.within 0 4294967295 y && true)) && true) = true := hb
      simp only [Bool.and_true, Bool.and_eq_true] at hb'
      refine ⟨_, _, ?_, IsCall.hotter x.toNat y.toNat, rfl⟩
      rw [← nn (lo := 0) hb'.1, ← nn (lo := 0) hb'.2]
      rfl
  | 15, _ =>
    obtain ⟨h1, rfl, rfl⟩ := split0 (n := 1) rfl h
    match r, h1, hb with
    | x :: r, _, hb =>
      have hb' : ((PyInside.within 0 4294967295 x && true) && true) = true := hb
      simp only [Bool.and_true, Bool.and_eq_true] at hb'
      refine ⟨_, _, ?_, IsCall.half x.toNat, rfl⟩
      rw [← nn (lo := 0) hb']
      rfl
  | 16, _ =>
    obtain ⟨h1, rfl, rfl⟩ := split0 (n := 1) rfl h
    match r, h1, hb with
    | x :: r, _, hb =>
      have hb' : ((PyInside.within 0 4294967295 x && true) && true) = true := hb
      simp only [Bool.and_true, Bool.and_eq_true] at hb'
      refine ⟨_, _, ?_, IsCall.done x.toNat, rfl⟩
      rw [← nn (lo := 0) hb']
      rfl
  | 17, _ =>
    obtain ⟨h1, rfl, rfl⟩ := split0 (n := 1) rfl h
    match r, h1, hb with
    | x :: r, _, hb =>
      have hb' : ((PyInside.within 0 4294967295 x && true) && true) = true := hb
      simp only [Bool.and_true, Bool.and_eq_true] at hb'
      refine ⟨_, _, ?_, IsCall.kg x.toNat, rfl⟩
      rw [← nn (lo := 0) hb']
      rfl
  | 18, _ =>
    obtain ⟨h1, rfl, rfl⟩ := split0 (n := 1) rfl h
    match r, h1, hb with
    | x :: r, _, hb =>
      have hb' : ((PyInside.within 0 4294967295 x && true) && true) = true := hb
      simp only [Bool.and_true, Bool.and_eq_true] at hb'
      refine ⟨_, _, ?_, IsCall.sizes x.toNat, rfl⟩
      rw [← nn (lo := 0) hb']
      rfl
  | 19, _ =>
    obtain ⟨h1, rfl, rfl⟩ := split0 (n := 1) rfl h
    match r, h1, hb with
    | x :: r, _, hb =>
      have hb' : ((PyInside.within 0 4294967295 x && true) && true) = true := hb
      simp only [Bool.and_true, Bool.and_eq_true] at hb'
      refine ⟨_, _, ?_, IsCall.mean x.toNat, rfl⟩
      rw [← nn (lo := 0) hb']
      rfl
  | 20, _ =>
    obtain ⟨h1, rfl, rfl⟩ := split0 (n := 2) rfl h
    match r, h1, hb with
    | x :: y :: r, _, hb =>
      have hb' : ((PyInside.within 0 4294967295 x && (PyInside.within 0 4294967295 y && true)) && true) = true := hb
      simp only [Bool.and_true, Bool.and_eq_true] at hb'
      refine ⟨_, _, ?_, IsCall.parts x.toNat y.toNat, rfl⟩
      rw [← nn (lo := 0) hb'.1, ← nn (lo := 0) hb'.2]
      rfl
  | 21, _ =>
    obtain ⟨h1, rfl, rfl⟩ := split0 (n := 0) rfl h
    exact ⟨_, _, rfl, IsCall.live, rfl⟩
  | 22, _ =>
    obtain ⟨h1, rfl, rfl⟩ := split0 (n := 1) rfl h
    match r, h1, hb with
    | x :: r, _, hb =>
      have hb' : ((PyInside.within 0 4294967295 x && true) && true) = true := hb
      simp only [Bool.and_true, Bool.and_eq_true] at hb'
      refine ⟨_, _, ?_, IsCall.of_ x.toNat, rfl⟩
      rw [← nn (lo := 0) hb']
      rfl
  | 23, _ =>
    obtain ⟨h1, rfl, rfl⟩ := split0 (n := 1) rfl h
    match r, h1, hb with
    | x :: r, _, hb =>
      have hb' : ((PyInside.within 0 4294967295 x && true) && true) = true := hb
      simp only [Bool.and_true, Bool.and_eq_true] at hb'
      refine ⟨_, _, ?_, IsCall.roots x.toNat, rfl⟩
      rw [← nn (lo := 0) hb']
      rfl
  | 24, _ =>
    obtain ⟨h1, rfl, rfl⟩ := split0 (n := 0) rfl h
    exact ⟨_, _, rfl, IsCall.raw, rfl⟩
  | 25, _ =>
    obtain ⟨h1, rfl, rfl⟩ := split0 (n := 0) rfl h
    exact ⟨_, _, rfl, IsCall.sums, rfl⟩
  | 26, _ =>
    obtain ⟨h1, rfl, rfl⟩ := split0 (n := 0) rfl h
    exact ⟨_, _, rfl, IsCall.state, rfl⟩
  | n + 27, hp => exact absurd hp.2 (by omega)
/-- what is due from a state on, over the rest of the list -/
def due (S : Kv342.State) (cs : List (List (List Int))) : List Int := PyFlat.told (PyFlat.played Kv342Neutral.step S (cs.map PyKv342.whole))
theorem due_cons {S : Kv342.State} {c : List (List Int)} {cs : List (List (List Int))} {cl : Kv342.Call} (h : Kv342Neutral.callOf (PyKv342.whole c) = some cl) :
    due S (c :: cs) = (((Kv342Neutral.row (act S cl).2).length : Int) :: Kv342Neutral.row (act S cl).2) ++ due (act S cl).1 cs := by
  have e : Kv342Neutral.step S (PyKv342.whole c) = ((act S cl).1, Kv342Neutral.row (act S cl).2) := by
    unfold Kv342Neutral.step
    rw [h]
  show PyFlat.told ((Kv342Neutral.step S (PyKv342.whole c)).2 :: PyFlat.played Kv342Neutral.step (Kv342Neutral.step S (PyKv342.whole c)).1 (cs.map PyKv342.whole)) = _
  rw [e]
  rfl
theorem calls_cons {f : Nat} {p : Int} {r : List Int} {cs : List (List (List Int))} (h : PyFlat.calls PyKv342.shape f (p :: r) = some cs) (hb : PyInside.calls PyKv342.bound cs = true) :
    ∃ (f' : Nat) (sl t : List Int) (c : List (List Int)) (cs' : List (List (List Int))) (cl : Kv342.Call), p :: r = sl ++ t ∧ IsCall sl cl ∧ cs = c :: cs' ∧ PyFlat.calls PyKv342.shape f' t = some cs' ∧ PyInside.calls PyKv342.bound cs' = true ∧ Kv342Neutral.callOf (PyKv342.whole c) = some cl := by
  cases f with
  | zero => cases h
  | succ f =>
    unfold PyFlat.calls at h
    cases e : PyFlat.call PyKv342.shape (p :: r) with
    | none => rw [e] at h; cases h
    | some x =>
      obtain ⟨c, t⟩ := x
      rw [e] at h
      dsimp only at h
      cases e2 : PyFlat.calls PyKv342.shape f t with
      | none => rw [e2] at h; cases h
      | some cs' =>
        rw [e2] at h
        dsimp only at h
        have e3 := Option.some.inj h
        subst e3
        have hb' : (PyInside.call PyKv342.bound c && PyInside.calls PyKv342.bound cs') = true := hb
        rw [Bool.and_eq_true] at hb'
        obtain ⟨sl, cl, h1, h2, h3⟩ := call_split e hb'.1
        exact ⟨f, sl, t, c, cs', cl, h1, h2, rfl, e2, hb'.2, h3⟩
theorem calls_nil {f : Nat} {cs : List (List (List Int))} (h : PyFlat.calls PyKv342.shape f [] = some cs) : cs = [] := by
  cases f <;> exact (Option.some.inj h).symm
theorem asked_calls {l : List Int} (h : PyKv342.answers_asked l = true) : ∃ cs, PyFlat.calls PyKv342.shape l.length l = some cs ∧ PyInside.calls PyKv342.bound cs = true ∧ cs.length ≤ 256 ∧ PyKv342.answers l = due none cs := by
  unfold PyKv342.answers_asked at h
  cases e : PyFlat.calls PyKv342.shape l.length l with
  | none => rw [e] at h; cases h
  | some cs =>
    rw [e] at h
    dsimp only at h
    simp only [Bool.and_eq_true] at h
    refine ⟨cs, rfl, h.1.1.2, by have := h.1.1.1.2; unfold PyFlat.atMost at this; simpa using this, ?_⟩
    unfold PyKv342.answers PyKv342.calls
    rw [e]
    rfl
end Bl
end
section
set_option linter.all false
set_option maxRecDepth 100000
namespace L2
open PySem PySem.Spec PyProof.Rows
/-! sets of small ints, in the layer -/
def setO (X : Cx) (nar : Bool) (p : Addr) (ks : List Nat) : HO := .ext (SU.GS (SU.byText X.w) nar p ks)
section
variable {X : Cx}
theorem setO_ok {nar : Bool} {p : Addr} {ks : List Nat} {H : Hp} {h : Heap} (G : SU.GS (SU.byText X.w) nar p ks h) : ObjOk X.prog X.w H h p (setO X nar p ks) :=
  ⟨G, let ⟨_, _, _, q, _⟩ := G; ⟨_, q⟩, fun h1 h2 g k => g.keep k⟩
theorem nats_ints (ns : List Nat) : (ns.map fun k => V.int ((k : Nat) : Int)) = (ns.map fun k => ((k : Nat) : Int)).map V.int := by rw [List.map_map]; rfl
/-- set(xs) -/
theorem cr_setI (hc : X.calm = true) : CallR X (.type "set") (fun vs H Q => ∃ (a : Addr) (ns : List Nat), vs = [V.ref a] ∧ SqL X.K H a (ns.map fun k => V.int ((k : Nat) : Int)) ∧ (∀ k ∈ ns, k < 12) ∧
    ∀ (p : Addr) (ks : List Nat), H p = none → (∀ j, j ∈ ks ↔ j ∈ ns) → Q (.ref p) (upd H p (setO X true p ks))) := by
  intro pins s σ H vs us Q I r h
  obtain ⟨a, ns, rfl, hs, h12, q⟩ := h
  obtain ⟨its, rv, hl, _⟩ := I.list hs
  rw [Vals.ref1 r]
  rw [nats_ints] at rv
  refine SU.set_of_list (I.ok.hd hc) hl.isList (by rw [List.toList_toArray]; exact rv.ints) h12 fun h' tk ks G hks hk => ?_
  exact ⟨.ref _, _, I.laid hk (Nat.le_refl _) (setO_ok G), rfl, q _ ks (I.hok.fresh (Nat.le_refl _)) hks⟩
/-- a | b -/
theorem op_orI : OpR X (binaryOp .BitOr) (fun x y H Q => ∃ (a b : Addr) (ka kb : List Nat), x = .ref a ∧ y = .ref b ∧ H a = some (setO X true a ka) ∧ H b = some (setO X true b kb) ∧ ka ≠ [] ∧ a ≠ b ∧
    ∀ (p : Addr) (ks : List Nat), H p = none → (∀ j, j ∈ ks ↔ j ∈ ka ∨ j ∈ kb) → Q (.ref p) (upd H p (setO X false p ks))) := by
  intro pins s σ H x y v u Q I rx ry h
  obtain ⟨a, b, ka, kb, rfl, rfl, ha, hb, hne, hab, q⟩ := h
  cases rx
  cases ry
  refine SU.wp_union hab (I.hok a _ ha).1 hne (I.hok b _ hb).1 fun h' ks G hks hk => ?_
  exact ⟨.ref _, _, I.laid (t' := s.toks) hk (Nat.le_refl _) (setO_ok G), rfl, q _ ks (I.hok.fresh (Nat.le_refl _)) hks⟩
/-- sorted(s) -/
theorem cr_sortedI (hc : X.calm = true) : CallR X (.builtin "sorted") (fun vs H Q => ∃ (a : Addr) (nar : Bool) (ks : List Nat), vs = [V.ref a] ∧ H a = some (setO X nar a ks) ∧
    ∀ (p : Addr) (ns : List Nat), H p = none → ns.Pairwise (· < ·) → (∀ j, j ∈ ns ↔ j ∈ ks) → Q (.ref p) (upd H p (.lst (ns.map fun k => V.int ((k : Nat) : Int))))) := by
  intro pins s σ H vs us Q I r h
  obtain ⟨a, nar, ks, rfl, ha, q⟩ := h
  rw [Vals.ref1 r]
  have G : SU.GS (SU.byText X.w) nar a ks s.heap := (I.hok a _ ha).1
  obtain ⟨nd, lt⟩ : ks.Nodup ∧ ∀ k ∈ ks, k < 12 := let ⟨_, _, _, _, _, T, _⟩ := G; ⟨T.nd, T.lt⟩
  refine SU.wp_sorted (I.ok.hd hc) G fun h' tk D out ep zs hk hD ho hI hp hs => ?_
  have e : zs = (zs.map Int.toNat).map fun k => ((k : Nat) : Int) := by
    rw [List.map_map]
    conv => lhs; rw [← List.map_id zs]
    refine List.map_congr_left fun z hz => ?_
    obtain ⟨k, _, rfl⟩ := List.mem_map.mp (hp.mem_iff.mp hz)
    rfl
  have hp2 : (zs.map Int.toNat).Perm ks := by
    have := hp.map Int.toNat
    rw [List.map_map] at this
    have e2 : ks.map (Int.toNat ∘ fun k => ((k : Nat) : Int)) = ks := by
      conv => rhs; rw [← List.map_id ks]
      exact List.map_congr_left fun k _ => rfl
    rw [e2] at this
    exact this
  have nd2 : (zs.map Int.toNat).Nodup := hp2.nodup_iff.mpr nd
  have lt2 : (zs.map Int.toNat).Pairwise (· < ·) := by
    have h1 : (zs.map Int.toNat).Pairwise (· ≤ ·) := List.pairwise_map.mpr (hs.imp fun {x y} (q : x ≤ y) => by omega)
    exact (h1.and nd2).imp fun {x y} q => Nat.lt_of_le_of_ne q.1 q.2
  have hlen : (zs.map Int.toNat).length ≤ 12 := by rw [hp2.length_eq]; exact SU.small_len nd lt
  refine ⟨.ref _, upd H D (.lst ((zs.map Int.toNat).map fun k => V.int ((k : Nat) : Int))), I.laid hk hD ⟨by rw [List.length_map, sizeLine_eq]; omega, out.toList, ep, ?_, by rw [Array.toArray_toList]; exact ho⟩, rfl, q _ _ (I.hok.fresh hD) lt2 fun j => hp2.mem_iff⟩
  rw [nats_ints, ← e]
  exact vals_of_ints hI
end
end L2
end
section
set_option Elab.async false
set_option linter.all false
set_option maxRecDepth 100000
namespace Bl
open PySem
def top (i : Nat) : Stmt := PySem.Challenge.pw_blanched_s01_answers.main.body.getD i (.Pass ⟨0, 0, 0, 0⟩)
abbrev s_after_second : Stmt := top 3
abbrev s_after_seconds : Stmt := top 4
abbrev s_least_seconds : Stmt := top 5
abbrev s_has_batch : Stmt := top 12
abbrev s_has_warmth : Stmt := top 13
abbrev s_is_mesh : Stmt := top 14
abbrev s_kilograms : Stmt := top 15
abbrev s_is_little_enough : Stmt := top 16
abbrev s_is_done : Stmt := top 17
abbrev s_seconds_needed : Stmt := top 18
abbrev s_alive_after : Stmt := top 19
abbrev s_green_after : Stmt := top 20
abbrev s_begin_anew : Stmt := top 35
abbrev s_add_warmth : Stmt := top 36
abbrev s_are_sizes : Stmt := top 37
abbrev s_add_batch : Stmt := top 38
abbrev s_wash_batch : Stmt := top 39
abbrev s_is_usable : Stmt := top 40
abbrev s_part_of : Stmt := top 41
abbrev s_sieve_batch : Stmt := top 42
abbrev s_mixture_of : Stmt := top 43
abbrev s_mix_batches : Stmt := top 44
abbrev s_heat : Stmt := top 45
abbrev s_heat_batch : Stmt := top 46
abbrev s_heat_enough : Stmt := top 47
abbrev s_pack_batch : Stmt := top 48
abbrev s_tell_alive : Stmt := top 51
abbrev s_tell_would : Stmt := top 52
abbrev s_tell_need : Stmt := top 53
abbrev s_tell_leaves : Stmt := top 54
abbrev s_tell_best : Stmt := top 55
abbrev s_tell_hotter : Stmt := top 56
abbrev s_tell_half : Stmt := top 57
abbrev s_tell_done : Stmt := top 60
abbrev s_tell_kilograms : Stmt := top 61
abbrev s_tell_sizes : Stmt := top 62
abbrev s_tell_mean : Stmt := top 63
abbrev s_tell_parts : Stmt := top 64
abbrev s_counted : Stmt := top 66
abbrev s_numbers_there : Stmt := top 67
abbrev s_tell_live : Stmt := top 68
abbrev s_tell_of : Stmt := top 69
abbrev s_tell_roots : Stmt := top 70
abbrev s_tell_raw : Stmt := top 71
abbrev s_kilograms_there : Stmt := top 72
abbrev s_tell_sums : Stmt := top 73
abbrev s_tell_state : Stmt := top 74
abbrev s_end_of_call : Stmt := top 103
abbrev s_answer_change : Stmt := top 104
abbrev s_answer_look : Stmt := top 105
abbrev s_answer_measure : Stmt := top 106
abbrev s_answer_overview : Stmt := top 107
abbrev s_answer_call : Stmt := top 108
abbrev s_answers : Stmt := top 109
abbrev s_Warmth : Stmt := L2.inClass (top 9) 0
abbrev s_Batch : Stmt := L2.inClass (top 10) 0
abbrev s_Kitchen : Stmt := L2.inClass (top 11) 0
abbrev s_Kitchen_make_empty : Stmt := L2.inClass (top 11) 1
/-- the constants of the text's top; the names of Python's own that it leaves as they are -/
structure Cst (mg : Str → Option Value) : Prop where
  WHOLE : ∃ t, mg "WHOLE" = some (.int 1000 t)
  LONGEST : ∃ t, mg "LONGEST" = some (.int 600 t)
  MILLION : ∃ t, mg "MILLION" = some (.int 1000000 t)
  SIZE_COUNT : ∃ t, mg "SIZE_COUNT" = some (.int 5 t)
  NO_SUCH : ∃ t, mg "NO_SUCH" = some (.int (-2) t)
  NOT_BEGUN : ∃ t, mg "NOT_BEGUN" = some (.int (-11) t)
  GONE_OR_UNWASHED : ∃ t, mg "GONE_OR_UNWASHED" = some (.int (-16) t)
  NO_WASTE : ∃ t, mg "NO_WASTE" = some (.int (-17) t)
  OUT_OF_RANGE : ∃ t, mg "OUT_OF_RANGE" = some (.int (-22) t)
  TOO_MANY : ∃ t, mg "TOO_MANY" = some (.int (-28) t)
  NOT_SO : ∃ t, mg "NOT_SO" = some (.int (-33) t)
  NOT_DONE : ∃ t, mg "NOT_DONE" = some (.int (-74) t)
  MOST_WARMTHS : ∃ t, mg "MOST_WARMTHS" = some (.int 5 t)
  MOST_FIRSTS : ∃ t, mg "MOST_FIRSTS" = some (.int 12 t)
  MOST_BATCHES : ∃ t, mg "MOST_BATCHES" = some (.int 40 t)
  MOST_LOST : ∃ t, mg "MOST_LOST" = some (.int 999 t)
  MOST_KILOGRAMS : ∃ t, mg "MOST_KILOGRAMS" = some (.int 10000 t)
  HALF_A_MILLION : ∃ t, mg "HALF_A_MILLION" = some (.int 500000 t)
  THOUSAND : ∃ t, mg "THOUSAND" = some (.int 1000 t)
  BEGIN : ∃ t, mg "BEGIN" = some (.int 0 t)
  WARM : ∃ t, mg "WARM" = some (.int 1 t)
  BATCH : ∃ t, mg "BATCH" = some (.int 2 t)
  WASH : ∃ t, mg "WASH" = some (.int 3 t)
  SIEVE : ∃ t, mg "SIEVE" = some (.int 4 t)
  MIX : ∃ t, mg "MIX" = some (.int 5 t)
  HEAT : ∃ t, mg "HEAT" = some (.int 6 t)
  ENOUGH : ∃ t, mg "ENOUGH" = some (.int 7 t)
  PACK : ∃ t, mg "PACK" = some (.int 8 t)
  ALIVE : ∃ t, mg "ALIVE" = some (.int 9 t)
  WOULD : ∃ t, mg "WOULD" = some (.int 10 t)
  NEED : ∃ t, mg "NEED" = some (.int 11 t)
  LEAVES : ∃ t, mg "LEAVES" = some (.int 12 t)
  BEST : ∃ t, mg "BEST" = some (.int 13 t)
  HOTTER : ∃ t, mg "HOTTER" = some (.int 14 t)
  HALF : ∃ t, mg "HALF" = some (.int 15 t)
  DONE : ∃ t, mg "DONE" = some (.int 16 t)
  KG : ∃ t, mg "KG" = some (.int 17 t)
  SIZES : ∃ t, mg "SIZES" = some (.int 18 t)
  MEAN : ∃ t, mg "MEAN" = some (.int 19 t)
  PARTS : ∃ t, mg "PARTS" = some (.int 20 t)
  LIVE : ∃ t, mg "LIVE" = some (.int 21 t)
  OF : ∃ t, mg "OF" = some (.int 22 t)
  ROOTS : ∃ t, mg "ROOTS" = some (.int 23 t)
  RAW : ∃ t, mg "RAW" = some (.int 24 t)
  SUMS : ∃ t, mg "SUMS" = some (.int 25 t)
  len : mg "len" = none
  list : mg "list" = none
  max : mg "max" = none
  range : mg "range" = none
  set : mg "set" = none
  sorted : mg "sorted" = none
  sum : mg "sum" = none
end Bl
end
section
set_option Elab.async false
set_option linter.all false
set_option maxRecDepth 100000
set_option maxHeartbeats 2000000
namespace Bl
open PySem PySem.Spec PyProof.Rows L2
abbrev I (k : Nat) : V := V.int ((k : Nat) : Int)
/-- a def of the text: its promise kept -/
structure Def (P : Program) (w : World) (K : PySem.W.Frag) (mg : Str → Option Value) (base : Heap) (k : Nat) (x : Str) (ps : List Str) (sp : Sp) : Prop where
  ex : ∃ (f : Addr) (fd : FuncData), mg x = some (.ref f) ∧ PySem.W.keepIn K (.ref f) = true ∧ Binds K fd ps [] ∧ FnOk P w K mg base CX0 k f fd ps sp
/-- a def of the text as the top has left it -/
structure Raw (K : PySem.W.Frag) (mg : Str → Option Value) (x : Str) (st : Stmt) (ps : List Str) : Prop where
  ex : ∃ (f : Addr) (fd : FuncData), mg x = some (.ref f) ∧ Fun K x x st f fd ∧ Binds K fd ps []
theorem Raw.mk' {K : PySem.W.Frag} {mg : Str → Option Value} {x : Str} {st : Stmt} {ps : List Str} {f : Addr} {fd : FuncData} (h : mg x = some (.ref f)) (F : Fun K x x st f fd) (B : Binds K fd ps []) : Raw K mg x st ps := ⟨f, fd, h, F, B⟩
section
variable {P : Program} {w : World} {K : PySem.W.Frag} {mg : Str → Option Value} {base : Heap}
theorem Raw.ok {x : Str} {st : Stmt} {ps N : List Str} {k : Nat} {sp : Sp} (R : Raw K mg x st ps) (S : FnScope N ps (defScope st)) (len : ∀ vs H Q E, sp vs H Q E → vs.length = ps.length)
    (hbody : ∀ (f : Addr) (cdv : Value) (A : Around) (outer : List Env) (s : Shared) (H : Hp) (vs : List V) (Q : VK) (E : XK), Room k (A.deeper (envOfC x (defScope st) s.heap.objs.size f cdv)) → sp vs H Q E →
      ∃ t, PSs (cxOf CX0 P w K mg base N x (defScope st) f cdv A outer s H E).nox (defBody st) t ∧ t { nx := fun _ H' => Q .non H', rt := Q } (start N vs) H) : Def P w K mg base (k + 1) x ps sp := by
  obtain ⟨f, fd, h1, F, B⟩ := R.ex
  exact ⟨f, fd, h1, F.kp, B, F.ok S len fun cdv A outer s H vs Q E hr h => hbody f cdv A outer s H vs Q E hr h⟩
end
section
variable {X : Cx} {k : Nat} {ps : List Str} {sp : Sp} {x : Str} {p pos : Pos} {e : Expr} {es : List Expr} {t : TA}
theorem pe_def (D : Def X.prog X.w X.K X.mg X.base k x ps sp) (hr : Room k X.A) (ha : PA X (e :: es) t) (hg : Gl X x := by rfl) (hx : Passes CX0 X E0 := by exact pass0) (hdb : (x == ("__debug__" : Str)) = false := by decide)
    (he : starEach (e :: es) X.env = (false, eval e X.env) :: starEach es X.env := by rfl) (hpl : (backTo pos (starEach es X.env)).any (·.1) = false := by rfl) : PE X (.Call (.Name x p) (e :: es) [] pos) (tCall sp [] E0 t) := by
  obtain ⟨f, fd, h1, h2, h3, h4⟩ := D.ex
  exact pe_call h4 hr hg h1 h2 h3 .nil hx ha hdb he hpl
/-- a constant of the text's top -/
theorem pe_cst {z : Int} (h : ∃ t, X.mg x = some (.int z t)) (hg : Gl X x := by rfl) (hd : (x == ("__debug__" : Str)) = false := by decide) : PE X (.Name x pos) (tC (.int z)) := by
  obtain ⟨t, h⟩ := h
  exact pe_glob hg h ⟨t, rfl⟩ hd
end
/-! ### heating -/
section
variable {P : Program} {w : World} {K : PySem.W.Frag} {mg : Str → Option Value} {base : Heap}
def sp_after_second : Sp := fun vs H Q _ => ∃ n k : Nat, vs = [I n, I k] ∧ k ≤ 999 ∧ Q (I (Kv342.second n k)) H
theorem sc_after_second : FnScope ["amount", "lost"] ["amount", "lost"] (defScope s_after_second) := ⟨rfl, rfl, rfl, by decide +kernel, rfl, by decide +kernel, by decide +kernel⟩
theorem ok_after_second (R : Raw K mg "after_second" s_after_second ["amount", "lost"]) (T : Cst mg) : Def P w K mg base 1 "after_second" ["amount", "lost"] sp_after_second := by
  refine R.ok sc_after_second (fun vs H Q E h => ?_) (fun f cdv A outer s H vs Q E hr h => ?_)
  · obtain ⟨n, k, rfl, _⟩ := h
    rfl
  · obtain ⟨n, k, rfl, hk, q⟩ := h
    refine ⟨_, pss_one (ps_ret (pe_op op_fdiv (pe_op op_mul (pv 0) (pe_op op_sub (pe_cst T.WHOLE) (pv 1))) (pe_cst T.WHOLE))), ?_⟩
    refine ⟨_, rfl, _, rfl, _, _, rfl, rfl, _, _, rfl, rfl, .inr ⟨by omega, by omega⟩, _, _, rfl, rfl, ⟨by decide, by decide⟩, ?_⟩
    have e := second_int (n := n) (k := k) (by omega)
    show Q (V.int (((n : Nat) : Int) * (1000 - ((k : Nat) : Int)) / 1000)) H
    rw [← e]
    exact q
end
end Bl
end
section
set_option Elab.async false
set_option linter.all false
set_option maxRecDepth 100000
set_option maxHeartbeats 2000000
namespace Bl
open PySem PySem.Spec PyProof.Rows L2
section
variable {P : Program} {w : World} {K : PySem.W.Frag} {mg : Str → Option Value} {base : Heap}
def sp_after_seconds : Sp := fun vs H Q _ => ∃ n k s : Nat, vs = [I n, I k, I s] ∧ k ≤ 999 ∧ s ≤ 600 ∧ Q (I (Kv342.seconds k s n)) H
theorem sc_after_seconds : FnScope ["amount", "lost", "seconds", "left", "second"] ["amount", "lost", "seconds"] (defScope s_after_seconds) := ⟨rfl, rfl, rfl, by decide +kernel, rfl, by decide +kernel, by decide +kernel⟩
theorem ok_after_seconds (R : Raw K mg "after_seconds" s_after_seconds ["amount", "lost", "seconds"]) (T : Cst mg) (D1 : Def P w K mg base 1 "after_second" ["amount", "lost"] sp_after_second) : Def P w K mg base 2 "after_seconds" ["amount", "lost", "seconds"] sp_after_seconds := by
  refine R.ok sc_after_seconds (fun vs H Q E h => ?_) (fun f cdv A outer s H vs Q E hr h => ?_)
  · obtain ⟨n, k, c, rfl, _⟩ := h
    rfl
  · obtain ⟨n, k, c, rfl, hk, hc, q⟩ := h
    refine ⟨_, pss_cons (ps_set (i := 3) sc_after_seconds.nd rfl (Or.inl rfl) (pv 0))
      (pss_cons (ps_for PassesOwn.never rfl (pi_range1 rfl T.range (pa_cons (pv 2) pa_nil)) (pg_name (i := 4) sc_after_seconds.nd rfl (Or.inl rfl))
        (pss_one (ps_set (i := 3) sc_after_seconds.nd rfl (Or.inl rfl) (pe_def D1 hr (pa_cons (pv 3) (pa_cons (pv 1) pa_nil))))))
      (pss_one (ps_ret (pv 3)))), ?_⟩
    refine ⟨_, rfl, ?_⟩
    refine ⟨_, rfl, ((c : Nat) : Int), rfl, by omega, by omega, for_range (n := c) (fun i σ H' => ∃ v : Option V, σ = [some (I n), some (I k), some (I c), some (I (Kv342.seconds k i n)), v] ∧ H' = H) ⟨none, rfl, rfl⟩ ?_ ?_⟩
    · rintro i σ H' hi ⟨v, rfl, rfl⟩
      refine ⟨_, rfl, _, rfl, _, k, rfl, hk, ?_⟩
      exact ⟨_, by rw [sec_succ]; rfl, rfl⟩
    · rintro σ H' ⟨v, rfl, rfl⟩
      exact ⟨_, rfl, q⟩
/-- the answer of least_seconds: a number or nothing -/
def optV : Option Nat → V
  | some n => I n
  | none => .non
def sp_least_seconds : Sp := fun vs H Q _ => ∃ n k l : Nat, vs = [I n, I k, I l] ∧ k ≤ 999 ∧ Q (optV (Kv342.least k l n)) H
theorem sc_least_seconds : FnScope ["alive", "kills", "limit", "left", "seconds"] ["alive", "kills", "limit"] (defScope s_least_seconds) := ⟨rfl, rfl, rfl, by decide +kernel, rfl, by decide +kernel, by decide +kernel⟩
theorem ok_least_seconds (R : Raw K mg "least_seconds" s_least_seconds ["alive", "kills", "limit"]) (T : Cst mg) (D1 : Def P w K mg base 1 "after_second" ["amount", "lost"] sp_after_second) : Def P w K mg base 2 "least_seconds" ["alive", "kills", "limit"] sp_least_seconds := by
  refine R.ok sc_least_seconds (fun vs H Q E h => ?_) (fun f cdv A outer s H vs Q E hr h => ?_)
  · obtain ⟨n, k, c, rfl, _⟩ := h
    rfl
  · obtain ⟨n, k, l, rfl, hk, q⟩ := h
    refine ⟨_, pss_cons (ps_set (i := 3) sc_least_seconds.nd rfl (Or.inl rfl) (pv 0))
      (pss_cons (ps_for PassesOwn.never rfl (pi_range1 rfl T.range (pa_cons (pe_op op_add (pe_cst T.LONGEST) pe_int) pa_nil)) (pg_name (i := 4) sc_least_seconds.nd rfl (Or.inl rfl))
        (pss_cons (ps_if (pt_cmpR op_le (pv 3) (pv 2) (nomark _)) (pss_one (ps_ret (pv 4))) pss_nil)
        (pss_one (ps_set (i := 3) sc_least_seconds.nd rfl (Or.inl rfl) (pe_def D1 hr (pa_cons (pv 3) (pa_cons (pv 1) pa_nil)))))))
      (pss_one (ps_ret pe_non))), ?_⟩
    refine ⟨_, rfl, ?_⟩
    refine ⟨_, _, rfl, rfl, (601 : Int), rfl, by decide, by decide, for_range (n := 601) (fun i σ H' => ∃ v : Option V, σ = [some (I n), some (I k), some (I l), some (I (Kv342.seconds k i n)), v] ∧ H' = H ∧ ∀ j, j < i → ¬ Kv342.seconds k j n ≤ l) ⟨none, rfl, rfl, fun j hj => absurd hj (Nat.not_lt_zero _)⟩ ?_ ?_⟩
    · rintro i σ H' hi ⟨v, rfl, rfl, hj⟩
      refine ⟨_, rfl, _, rfl, _, _, rfl, rfl, _, rfl, ite2 (fun hc => ?_) (fun hc => ?_)⟩
      · refine ⟨_, rfl, ?_⟩
        rw [least_some hi (by simpa using hc) hj] at q
        show Q (V.int (0 + ((i : Nat) : Int))) H'
        rw [Int.zero_add]
        exact q
      · refine ⟨_, rfl, _, rfl, _, k, rfl, hk, ?_⟩
        refine ⟨_, by rw [sec_succ]; rfl, rfl, fun j h => ?_⟩
        by_cases e : j = i
        · subst e
          simpa using hc
        · exact hj j (by omega)
    · rintro σ H' ⟨v, rfl, rfl, hj⟩
      rw [least_none hj] at q
      exact q
end
end Bl
end
section
set_option Elab.async false
set_option linter.all false
set_option maxRecDepth 100000
set_option maxHeartbeats 2000000
namespace Bl
open PySem PySem.Spec PyProof.Rows L2
/-! ### what is kept, as objects -/
def wf (x : Kv342.Warm) : List (Str × V) := [("kills", I x.kills), ("fades", I x.fades)]
def bf (x : Kv342.Batch) (sz rt : Addr) : List (Str × V) := [("waste", I x.waste), ("sizes", .ref sz), ("alive", I x.alive), ("green", I x.green), ("roots", .ref rt), ("gone", .bl x.gone)]
def kf (b : Bool) (a : Kv342.Abs) (LW LB : Addr) : List (Str × V) := [("begun", .bl b), ("limit", I a.limit), ("warmths", .ref LW), ("batches", .ref LB), ("firsts", I a.firsts), ("came", I a.came), ("washed", I a.washed), ("packed", I a.packed)]
theorem wf_kills (x : Kv342.Warm) : (wf x).lookup ("kills" : Str) = some (I x.kills) := by rfl
theorem wf_fades (x : Kv342.Warm) : (wf x).lookup ("fades" : Str) = some (I x.fades) := by rfl
section
variable (x : Kv342.Batch) (sz rt : Addr)
theorem bf_waste : (bf x sz rt).lookup ("waste" : Str) = some (I x.waste) := by rfl
theorem bf_sizes : (bf x sz rt).lookup ("sizes" : Str) = some (.ref sz) := by rfl
theorem bf_alive : (bf x sz rt).lookup ("alive" : Str) = some (I x.alive) := by rfl
theorem bf_green : (bf x sz rt).lookup ("green" : Str) = some (I x.green) := by rfl
theorem bf_roots : (bf x sz rt).lookup ("roots" : Str) = some (.ref rt) := by rfl
theorem bf_gone : (bf x sz rt).lookup ("gone" : Str) = some (.bl x.gone) := by rfl
theorem put_waste (n : Nat) : putF ("waste" : Str) (I n) (bf x sz rt) = bf { x with waste := n } sz rt := by rfl
theorem put_alive (n : Nat) : putF ("alive" : Str) (I n) (bf x sz rt) = bf { x with alive := n } sz rt := by rfl
theorem put_green (n : Nat) : putF ("green" : Str) (I n) (bf x sz rt) = bf { x with green := n } sz rt := by rfl
theorem put_gone (b : Bool) : putF ("gone" : Str) (.bl b) (bf x sz rt) = bf { x with gone := b } sz rt := by rfl
end

/-- the text's classes -/
structure Cl (K : PySem.W.Frag) (CW CB CK : Addr) : Prop where
  w : Cls K CW
  b : Cls K CB
  k : Cls K CK
  kills : NoAttr K CW "kills"
  fades : NoAttr K CW "fades"
  waste : NoAttr K CB "waste"
  sizes : NoAttr K CB "sizes"
  alive : NoAttr K CB "alive"
  green : NoAttr K CB "green"
  roots : NoAttr K CB "roots"
  gone : NoAttr K CB "gone"
  begun : NoAttr K CK "begun"
  limit : NoAttr K CK "limit"
  warmths : NoAttr K CK "warmths"
  batches : NoAttr K CK "batches"
  firsts : NoAttr K CK "firsts"
  came : NoAttr K CK "came"
  washed : NoAttr K CK "washed"
  packed : NoAttr K CK "packed"
structure BatOk (x : Kv342.Batch) : Prop where
  five : x.sizes.length = 5
  pos : 0 < x.sizes.sum
  root : rootsOf x.roots ≠ []
structure AbsOk (a : Kv342.Abs) : Prop where
  wl : a.warms.length ≤ 5
  w : ∀ x ∈ a.warms, 1 ≤ x.kills ∧ x.kills ≤ 999 ∧ x.fades ≤ 999
  bl : a.batches.length ≤ 40
  b : ∀ x ∈ a.batches, BatOk x
  f : a.firsts ≤ 12
  kg : ∀ (j : Nat) (x : Kv342.Batch), a.batches[j]? = some x → x.sizes.sum ≤ 50000 * 2 ^ j
structure Bat (CB : Addr) (H : Hp) (p sz rt : Addr) (x : Kv342.Batch) : Prop where
  at_ : ∃ dx, H p = some (.ins CB dx (bf x sz rt))
  sz : H sz = some (.lst (x.sizes.map I))
  rt : H rt = some (.lst ((rootsOf x.roots).map I))
structure Kit (CW CB CK : Addr) (H : Hp) (k : Addr) (a : Kv342.Abs) (LW LB : Addr) (ws : List Addr) (bs : List (Addr × Addr × Addr)) : Prop where
  kit : ∃ dx, H k = some (.ins CK dx (kf true a LW LB))
  lw : H LW = some (.lst (ws.map V.ref))
  lb : H LB = some (.lst (bs.map fun b => V.ref b.1))
  ne : LW ≠ LB
  wl : ws.length = a.warms.length
  wa : ∀ (j : Nat) (x : Kv342.Warm), a.warms[j]? = some x → ∃ p dx, ws[j]? = some p ∧ H p = some (.ins CW dx (wf x))
  bl : bs.length = a.batches.length
  ba : ∀ (j : Nat) (x : Kv342.Batch), a.batches[j]? = some x → ∃ p sz rt, bs[j]? = some (p, sz, rt) ∧ Bat CB H p sz rt x
  nd : (bs.map (·.1)).Nodup
  ok : AbsOk a
def KitE (CW CB CK : Addr) (H : Hp) (k : Addr) (a : Kv342.Abs) : Prop := ∃ LW LB ws bs, Kit CW CB CK H k a LW LB ws bs
/-- all that the kitchen is of -/
def foot (k LW LB : Addr) (ws : List Addr) (bs : List (Addr × Addr × Addr)) : List Addr := k :: LW :: LB :: (ws ++ bs.flatMap fun b => [b.1, b.2.1, b.2.2])
theorem batch_at {a : Kv342.Abs} {b : Nat} {x : Kv342.Batch} (h : a.batches[b]? = some x) : a.batch b = x := by
  unfold Kv342.Abs.batch
  rw [List.getD_eq_getElem?_getD, h]
  rfl
theorem warm_at {a : Kv342.Abs} {b : Nat} {x : Kv342.Warm} (h : a.warms[b]? = some x) : a.warm b = x := by
  unfold Kv342.Abs.warm
  rw [List.getD_eq_getElem?_getD, h]
  rfl
end Bl
end
section
set_option Elab.async false
set_option linter.all false
set_option maxRecDepth 100000
set_option maxHeartbeats 2000000
namespace Bl
open PySem PySem.Spec PyProof.Rows L2
section
variable {P : Program} {w : World} {K : PySem.W.Frag} {mg : Str → Option Value} {base : Heap} {CW CB CK : Addr}
def sp_has_batch (CW CB CK : Addr) : Sp := fun vs H Q _ => ∃ (k : Addr) (a : Kv342.Abs) (b : Nat), vs = [.ref k, I b] ∧ KitE CW CB CK H k a ∧ Q (.bl (decide (b < a.batches.length))) H
theorem sc_has_batch : FnScope ["kitchen", "b"] ["kitchen", "b"] (defScope s_has_batch) := ⟨rfl, rfl, rfl, by decide +kernel, rfl, by decide +kernel, by decide +kernel⟩
theorem lt_cast (a b : Nat) : decide (((a : Nat) : Int) < ((b : Nat) : Int)) = decide (a < b) := by simp
theorem le_cast (a b : Nat) : decide (((a : Nat) : Int) ≤ ((b : Nat) : Int)) = decide (a ≤ b) := by simp
theorem ok_has_batch (R : Raw K mg "has_batch" s_has_batch ["kitchen", "b"]) (T : Cst mg) (C : Cl K CW CB CK) : Def P w K mg base 1 "has_batch" ["kitchen", "b"] (sp_has_batch CW CB CK) := by
  refine R.ok sc_has_batch (fun vs H Q E h => ?_) (fun f cdv A outer s H vs Q E hr h => ?_)
  · obtain ⟨k, a, b, rfl, _⟩ := h
    rfl
  · obtain ⟨k, a, b, rfl, ⟨LW, LB, ws, bs, KT⟩, q⟩ := h
    obtain ⟨dx, hk⟩ := KT.kit
    refine ⟨_, pss_one (ps_ret (pe_cmpR op_lt (pv 1) (pe_callB call_len_seq (by rfl) T.len PySem.boot_len (pa_cons (pe_fld (pv 0) rfl) pa_nil)) (nomark _))), ?_⟩
    refine ⟨_, rfl, _, rfl, k, CK, dx, _, _, rfl, hk, C.k, C.batches, rfl, LB, _, rfl, .inl (SqL.of KT.lb), _, _, rfl, rfl, ?_⟩
    show Q (.bl (decide (((b : Nat) : Int) < (((bs.map fun b => V.ref b.1).length : Nat) : Int)))) H
    rw [lt_cast, List.length_map, KT.bl]
    exact q
def sp_has_warmth (CW CB CK : Addr) : Sp := fun vs H Q _ => ∃ (k : Addr) (a : Kv342.Abs) (b : Nat), vs = [.ref k, I b] ∧ KitE CW CB CK H k a ∧ Q (.bl (decide (b < a.warms.length))) H
theorem sc_has_warmth : FnScope ["kitchen", "w"] ["kitchen", "w"] (defScope s_has_warmth) := ⟨rfl, rfl, rfl, by decide +kernel, rfl, by decide +kernel, by decide +kernel⟩
theorem ok_has_warmth (R : Raw K mg "has_warmth" s_has_warmth ["kitchen", "w"]) (T : Cst mg) (C : Cl K CW CB CK) : Def P w K mg base 1 "has_warmth" ["kitchen", "w"] (sp_has_warmth CW CB CK) := by
  refine R.ok sc_has_warmth (fun vs H Q E h => ?_) (fun f cdv A outer s H vs Q E hr h => ?_)
  · obtain ⟨k, a, b, rfl, _⟩ := h
    rfl
  · obtain ⟨k, a, b, rfl, ⟨LW, LB, ws, bs, KT⟩, q⟩ := h
    obtain ⟨dx, hk⟩ := KT.kit
    refine ⟨_, pss_one (ps_ret (pe_cmpR op_lt (pv 1) (pe_callB call_len_seq (by rfl) T.len PySem.boot_len (pa_cons (pe_fld (pv 0) rfl) pa_nil)) (nomark _))), ?_⟩
    refine ⟨_, rfl, _, rfl, k, CK, dx, _, _, rfl, hk, C.k, C.warmths, rfl, LW, _, rfl, .inl (SqL.of KT.lw), _, _, rfl, rfl, ?_⟩
    show Q (.bl (decide (((b : Nat) : Int) < (((ws.map V.ref).length : Nat) : Int)))) H
    rw [lt_cast, List.length_map, KT.wl]
    exact q
theorem sum_ints : ∀ l : List Nat, (l.map fun k => ((k : Nat) : Int)).sum = ((l.sum : Nat) : Int)
  | [] => rfl
  | a :: l => by
    rw [List.map_cons, List.sum_cons, List.sum_cons, sum_ints l]
    omega
theorem map_I (l : List Nat) : l.map I = (l.map fun k => ((k : Nat) : Int)).map V.int := by rw [List.map_map]; rfl
def sp_kilograms (CB : Addr) : Sp := fun vs H Q _ => ∃ (p sz rt : Addr) (x : Kv342.Batch), vs = [.ref p] ∧ Bat CB H p sz rt x ∧ Q (I x.kg) H
theorem sc_kilograms : FnScope ["batch"] ["batch"] (defScope s_kilograms) := ⟨rfl, rfl, rfl, by decide +kernel, rfl, by decide +kernel, by decide +kernel⟩
theorem ok_kilograms (R : Raw K mg "kilograms" s_kilograms ["batch"]) (T : Cst mg) (C : Cl K CW CB CK) : Def P w K mg base 1 "kilograms" ["batch"] (sp_kilograms CB) := by
  refine R.ok sc_kilograms (fun vs H Q E h => ?_) (fun f cdv A outer s H vs Q E hr h => ?_)
  · obtain ⟨p, sz, rt, x, rfl, _⟩ := h
    rfl
  · obtain ⟨p, sz, rt, x, rfl, B, q⟩ := h
    obtain ⟨dx, hp⟩ := B.at_
    refine ⟨_, pss_one (ps_ret (pe_callB (cr_sum rfl) (by rfl) T.sum PyProof.Rows.boot_sum (pa_cons (pe_fld (pv 0) rfl) pa_nil))), ?_⟩
    refine ⟨_, rfl, p, CB, dx, _, _, rfl, hp, C.b, C.sizes, rfl, sz, x.sizes.map (fun k => ((k : Nat) : Int)), rfl, SqL.of (by rw [← map_I]; exact B.sz), ?_⟩
    rw [sum_ints]
    exact q
def sp_is_little_enough (CW CB CK : Addr) : Sp := fun vs H Q _ => ∃ (k : Addr) (a : Kv342.Abs) (n : Nat), vs = [.ref k, I n] ∧ KitE CW CB CK H k a ∧ Q (.bl (decide (n ≤ a.limit))) H
theorem sc_is_little_enough : FnScope ["kitchen", "alive"] ["kitchen", "alive"] (defScope s_is_little_enough) := ⟨rfl, rfl, rfl, by decide +kernel, rfl, by decide +kernel, by decide +kernel⟩
theorem ok_is_little_enough (R : Raw K mg "is_little_enough" s_is_little_enough ["kitchen", "alive"]) (C : Cl K CW CB CK) : Def P w K mg base 1 "is_little_enough" ["kitchen", "alive"] (sp_is_little_enough CW CB CK) := by
  refine R.ok sc_is_little_enough (fun vs H Q E h => ?_) (fun f cdv A outer s H vs Q E hr h => ?_)
  · obtain ⟨k, a, b, rfl, _⟩ := h
    rfl
  · obtain ⟨k, a, n, rfl, ⟨LW, LB, ws, bs, KT⟩, q⟩ := h
    obtain ⟨dx, hk⟩ := KT.kit
    refine ⟨_, pss_one (ps_ret (pe_cmpR op_le (pv 1) (pe_fld (pv 0) rfl) (nomark _))), ?_⟩
    refine ⟨_, rfl, _, rfl, k, CK, dx, _, _, rfl, hk, C.k, C.limit, rfl, _, _, rfl, rfl, ?_⟩
    show Q (.bl (decide (((n : Nat) : Int) ≤ ((a.limit : Nat) : Int)))) H
    rw [le_cast]
    exact q
/-- kitchen.batches[b], kitchen.warmths[w] -/
theorem atI_ref {l : List Addr} {j : Nat} {p : Addr} (h : l[j]? = some p) : atI (l.map V.ref) ((j : Nat) : Int) = some (V.ref p) := at_of rfl (by rw [List.getElem?_map, h]; rfl)
theorem atI_bat {l : List (Addr × Addr × Addr)} {j : Nat} {p sz rt : Addr} (h : l[j]? = some (p, sz, rt)) : atI (l.map fun b => V.ref b.1) ((j : Nat) : Int) = some (V.ref p) := at_of rfl (by rw [List.getElem?_map, h]; rfl)
def sp_seconds_needed (CW CB CK : Addr) : Sp := fun vs H Q _ => ∃ (k : Addr) (a : Kv342.Abs) (b v : Nat) (x : Kv342.Batch) (y : Kv342.Warm), vs = [.ref k, I b, I v] ∧ KitE CW CB CK H k a ∧ a.batches[b]? = some x ∧ a.warms[v]? = some y ∧ Q (optV (Kv342.least y.kills a.limit x.alive)) H
theorem sc_seconds_needed : FnScope ["kitchen", "b", "w"] ["kitchen", "b", "w"] (defScope s_seconds_needed) := ⟨rfl, rfl, rfl, by decide +kernel, rfl, by decide +kernel, by decide +kernel⟩
theorem ok_seconds_needed (R : Raw K mg "seconds_needed" s_seconds_needed ["kitchen", "b", "w"]) (C : Cl K CW CB CK) (D : Def P w K mg base 2 "least_seconds" ["alive", "kills", "limit"] sp_least_seconds) : Def P w K mg base 3 "seconds_needed" ["kitchen", "b", "w"] (sp_seconds_needed CW CB CK) := by
  refine R.ok sc_seconds_needed (fun vs H Q E h => ?_) (fun f cdv A outer s H vs Q E hr h => ?_)
  · obtain ⟨k, a, b, v, x, y, rfl, _⟩ := h
    rfl
  · obtain ⟨k, a, b, v, x, y, rfl, ⟨LW, LB, ws, bs, KT⟩, hx, hy, q⟩ := h
    obtain ⟨dx, hk⟩ := KT.kit
    obtain ⟨p, sz, rt, hp, B⟩ := KT.ba b x hx
    obtain ⟨db, hb⟩ := B.at_
    obtain ⟨u, du, hu, hw⟩ := KT.wa v y hy
    have hky := (KT.ok.w y (List.mem_of_getElem? hy)).2.1
    refine ⟨_, pss_one (ps_ret (pe_def D hr (pa_cons (pe_fld (pe_ix ix_list (pe_fld (pv 0) rfl) (pv 1) (fun _ _ => rfl)) rfl) (pa_cons (pe_fld (pe_ix ix_list (pe_fld (pv 0) rfl) (pv 2) (fun _ _ => rfl)) rfl) (pa_cons (pe_fld (pv 0) rfl) pa_nil))))), ?_⟩
    refine ⟨_, rfl, k, CK, dx, _, _, rfl, hk, C.k, C.batches, rfl, _, rfl, LB, _, _, _, rfl, rfl, SqL.of KT.lb, atI_bat hp, p, CB, db, _, _, rfl, hb, C.b, C.alive, rfl, ?_⟩
    refine ⟨_, rfl, k, CK, dx, _, _, rfl, hk, C.k, C.warmths, rfl, _, rfl, LW, _, _, _, rfl, rfl, SqL.of KT.lw, atI_ref hu, u, CW, du, _, _, rfl, hw, C.w, C.kills, rfl, ?_⟩
    refine ⟨_, rfl, k, CK, dx, _, _, rfl, hk, C.k, C.limit, rfl, ?_⟩
    exact ⟨_, _, _, rfl, hky, q⟩
def sp_alive_after (CW CB CK : Addr) : Sp := fun vs H Q _ => ∃ (k : Addr) (a : Kv342.Abs) (b v s : Nat) (x : Kv342.Batch) (y : Kv342.Warm), vs = [.ref k, I b, I v, I s] ∧ s ≤ 600 ∧ KitE CW CB CK H k a ∧ a.batches[b]? = some x ∧ a.warms[v]? = some y ∧ Q (I (Kv342.seconds y.kills s x.alive)) H
theorem sc_alive_after : FnScope ["kitchen", "b", "w", "seconds"] ["kitchen", "b", "w", "seconds"] (defScope s_alive_after) := ⟨rfl, rfl, rfl, by decide +kernel, rfl, by decide +kernel, by decide +kernel⟩
theorem ok_alive_after (R : Raw K mg "alive_after" s_alive_after ["kitchen", "b", "w", "seconds"]) (C : Cl K CW CB CK) (D : Def P w K mg base 2 "after_seconds" ["amount", "lost", "seconds"] sp_after_seconds) : Def P w K mg base 3 "alive_after" ["kitchen", "b", "w", "seconds"] (sp_alive_after CW CB CK) := by
  refine R.ok sc_alive_after (fun vs H Q E h => ?_) (fun f cdv A outer s H vs Q E hr h => ?_)
  · obtain ⟨k, a, b, v, s, x, y, rfl, _⟩ := h
    rfl
  · obtain ⟨k, a, b, v, c, x, y, rfl, hc, ⟨LW, LB, ws, bs, KT⟩, hx, hy, q⟩ := h
    obtain ⟨dx, hk⟩ := KT.kit
    obtain ⟨p, sz, rt, hp, B⟩ := KT.ba b x hx
    obtain ⟨db, hb⟩ := B.at_
    obtain ⟨u, du, hu, hw⟩ := KT.wa v y hy
    have hky := (KT.ok.w y (List.mem_of_getElem? hy)).2.1
    refine ⟨_, pss_one (ps_ret (pe_def D hr (pa_cons (pe_fld (pe_ix ix_list (pe_fld (pv 0) rfl) (pv 1) (fun _ _ => rfl)) rfl) (pa_cons (pe_fld (pe_ix ix_list (pe_fld (pv 0) rfl) (pv 2) (fun _ _ => rfl)) rfl) (pa_cons (pv 3) pa_nil))))), ?_⟩
    refine ⟨_, rfl, k, CK, dx, _, _, rfl, hk, C.k, C.batches, rfl, _, rfl, LB, _, _, _, rfl, rfl, SqL.of KT.lb, atI_bat hp, p, CB, db, _, _, rfl, hb, C.b, C.alive, rfl, ?_⟩
    refine ⟨_, rfl, k, CK, dx, _, _, rfl, hk, C.k, C.warmths, rfl, _, rfl, LW, _, _, _, rfl, rfl, SqL.of KT.lw, atI_ref hu, u, CW, du, _, _, rfl, hw, C.w, C.kills, rfl, ?_⟩
    exact ⟨_, rfl, _, _, _, rfl, hky, hc, q⟩
def sp_green_after (CW CB CK : Addr) : Sp := fun vs H Q _ => ∃ (k : Addr) (a : Kv342.Abs) (b v s : Nat) (x : Kv342.Batch) (y : Kv342.Warm), vs = [.ref k, I b, I v, I s] ∧ s ≤ 600 ∧ KitE CW CB CK H k a ∧ a.batches[b]? = some x ∧ a.warms[v]? = some y ∧ Q (I (Kv342.seconds y.fades s x.green)) H
theorem sc_green_after : FnScope ["kitchen", "b", "w", "seconds"] ["kitchen", "b", "w", "seconds"] (defScope s_green_after) := ⟨rfl, rfl, rfl, by decide +kernel, rfl, by decide +kernel, by decide +kernel⟩
theorem ok_green_after (R : Raw K mg "green_after" s_green_after ["kitchen", "b", "w", "seconds"]) (C : Cl K CW CB CK) (D : Def P w K mg base 2 "after_seconds" ["amount", "lost", "seconds"] sp_after_seconds) : Def P w K mg base 3 "green_after" ["kitchen", "b", "w", "seconds"] (sp_green_after CW CB CK) := by
  refine R.ok sc_green_after (fun vs H Q E h => ?_) (fun f cdv A outer s H vs Q E hr h => ?_)
  · obtain ⟨k, a, b, v, s, x, y, rfl, _⟩ := h
    rfl
  · obtain ⟨k, a, b, v, c, x, y, rfl, hc, ⟨LW, LB, ws, bs, KT⟩, hx, hy, q⟩ := h
    obtain ⟨dx, hk⟩ := KT.kit
    obtain ⟨p, sz, rt, hp, B⟩ := KT.ba b x hx
    obtain ⟨db, hb⟩ := B.at_
    obtain ⟨u, du, hu, hw⟩ := KT.wa v y hy
    have hky := (KT.ok.w y (List.mem_of_getElem? hy)).2.2
    refine ⟨_, pss_one (ps_ret (pe_def D hr (pa_cons (pe_fld (pe_ix ix_list (pe_fld (pv 0) rfl) (pv 1) (fun _ _ => rfl)) rfl) (pa_cons (pe_fld (pe_ix ix_list (pe_fld (pv 0) rfl) (pv 2) (fun _ _ => rfl)) rfl) (pa_cons (pv 3) pa_nil))))), ?_⟩
    refine ⟨_, rfl, k, CK, dx, _, _, rfl, hk, C.k, C.batches, rfl, _, rfl, LB, _, _, _, rfl, rfl, SqL.of KT.lb, atI_bat hp, p, CB, db, _, _, rfl, hb, C.b, C.green, rfl, ?_⟩
    refine ⟨_, rfl, k, CK, dx, _, _, rfl, hk, C.k, C.warmths, rfl, _, rfl, LW, _, _, _, rfl, rfl, SqL.of KT.lw, atI_ref hu, u, CW, du, _, _, rfl, hw, C.w, C.fades, rfl, ?_⟩
    exact ⟨_, rfl, _, _, _, rfl, hky, hc, q⟩
end
end Bl
end
section
set_option Elab.async false
set_option linter.all false
set_option maxRecDepth 100000
set_option maxHeartbeats 2000000
namespace Bl
open PySem PySem.Spec PyProof.Rows L2
/-! ### the heap changes, the kitchen with it -/
section
variable {CW CB CK : Addr} {H H' : Hp} {k : Addr} {a : Kv342.Abs} {LW LB : Addr} {ws : List Addr} {bs : List (Addr × Addr × Addr)}
theorem Bat.same {p sz rt : Addr} {x : Kv342.Batch} (B : Bat CB H p sz rt x) (s : Same H H') : Bat CB H' p sz rt x :=
  ⟨let ⟨dx, h⟩ := B.at_; ⟨dx, s _ _ h⟩, s _ _ B.sz, s _ _ B.rt⟩
theorem Kit.same (T : Kit CW CB CK H k a LW LB ws bs) (s : Same H H') : Kit CW CB CK H' k a LW LB ws bs where
  kit := let ⟨dx, h⟩ := T.kit; ⟨dx, s _ _ h⟩
  lw := s _ _ T.lw
  lb := s _ _ T.lb
  ne := T.ne
  wl := T.wl
  wa := fun j x h => let ⟨p, dx, h1, h2⟩ := T.wa j x h; ⟨p, dx, h1, s _ _ h2⟩
  bl := T.bl
  ba := fun j x h => let ⟨p, sz, rt, h1, h2⟩ := T.ba j x h; ⟨p, sz, rt, h1, h2.same s⟩
  nd := T.nd
  ok := T.ok
theorem Same.new {p : Addr} {o : HO} (h : H p = none) : Same H (upd H p o) := fun b u e => by rw [upd_ne (ne_of_none e h)]; exact e
theorem kf_bf {dx dy sz rt LW LB C C' : Addr} {b : Bool} {a : Kv342.Abs} {x : Kv342.Batch} : (HO.ins C dx (kf b a LW LB)) ≠ HO.ins C' dy (bf x sz rt) := fun e => by
  injection e with _ _ e
  have := congrArg (List.lookup ("begun" : Str)) e
  cases this
theorem kf_wf {dx dy LW LB C C' : Addr} {b : Bool} {a : Kv342.Abs} {x : Kv342.Warm} : (HO.ins C dx (kf b a LW LB)) ≠ HO.ins C' dy (wf x) := fun e => by
  injection e with _ _ e
  have := congrArg (List.lookup ("begun" : Str)) e
  cases this
theorem bf_wf {dx dy sz rt C C' : Addr} {x : Kv342.Batch} {y : Kv342.Warm} : (HO.ins C dx (bf x sz rt)) ≠ HO.ins C' dy (wf y) := fun e => by
  injection e with _ _ e
  have := congrArg (List.lookup ("waste" : Str)) e
  cases this
theorem lst_ins {xs : List V} {C dx : Addr} {fs : List (Str × V)} : HO.lst xs ≠ HO.ins C dx fs := fun e => by cases e
/-- a list of ints that is not empty is no list of objects -/
theorem ints_refs {l : List Nat} (h : l ≠ []) {rs : List Addr} : HO.lst (l.map I) ≠ HO.lst (rs.map V.ref) := fun e => by
  injection e with e
  cases l with
  | nil => exact h rfl
  | cons x l =>
    cases rs with
    | nil => cases e
    | cons r rs =>
      rw [List.map_cons, List.map_cons] at e
      injection e with e _
      cases e
theorem refs_fst (bs : List (Addr × Addr × Addr)) : (bs.map fun b => V.ref b.1) = (bs.map (·.1)).map V.ref := by rw [List.map_map]; rfl
theorem BatOk.ne {x : Kv342.Batch} (h : BatOk x) : x.sizes ≠ [] := fun e => by
  have := h.five
  rw [e] at this
  cases this
/-- a batch's own numbers change -/
theorem Kit.setB (T : Kit CW CB CK H k a LW LB ws bs) {b : Nat} {p sz rt dx : Addr} {x : Kv342.Batch} {f : Kv342.Batch → Kv342.Batch} (hx : a.batches[b]? = some x) (hp : bs[b]? = some (p, sz, rt)) (hs : (f x).sizes = x.sizes) (hr : (f x).roots = x.roots)
    (h1 : H' p = some (.ins CB dx (bf (f x) sz rt))) (h2 : ∀ q o, H q = some o → q ≠ p → H' q = some o) : Kit CW CB CK H' k (a.set_ b f) LW LB ws bs := by
  obtain ⟨p', sz', rt', hp', B⟩ := T.ba b x hx
  obtain ⟨rfl, rfl, rfl⟩ : p = p' ∧ sz = sz' ∧ rt = rt' := by
    have := Option.some.inj (hp.symm.trans hp')
    injection this with e1 e2
    injection e2 with e2 e3
    exact ⟨e1, e2, e3⟩
  obtain ⟨db, hb⟩ := B.at_
  have hl : ∀ (q : Addr) (xs : List V), H q = some (.lst xs) → H' q = some (.lst xs) := fun q xs h => h2 q _ h (ne_of h hb lst_ins)
  refine ⟨?_, hl _ _ T.lw, hl _ _ T.lb, T.ne, T.wl, fun j y hy => ?_, ?_, fun j y hy => ?_, T.nd, ?_⟩
  · obtain ⟨dk, hk⟩ := T.kit
    exact ⟨dk, h2 _ _ hk (ne_of hk hb kf_bf)⟩
  · obtain ⟨q, dq, e1, e2⟩ := T.wa j y hy
    exact ⟨q, dq, e1, h2 _ _ e2 (ne_of e2 hb fun e => bf_wf e.symm)⟩
  · show bs.length = (a.batches.modify b f).length
    rw [List.length_modify]
    exact T.bl
  · have hy' : (a.batches.modify b f)[j]? = some y := hy
    rw [List.getElem?_modify] at hy'
    by_cases e : b = j
    · subst e
      rw [hx] at hy'
      have ey : f x = y := by simpa using hy'
      subst ey
      exact ⟨p, sz, rt, hp, ⟨dx, h1⟩, by rw [hs]; exact hl _ _ B.sz, by rw [hr]; exact hl _ _ B.rt⟩
    · cases ej : a.batches[j]? with
      | none => rw [ej] at hy'; cases hy'
      | some z =>
        rw [ej] at hy'
        have ey : z = y := by simpa [e] using hy'
        subst ey
        obtain ⟨q, qs, qr, e1, B2⟩ := T.ba j z ej
        obtain ⟨dq, e2⟩ := B2.at_
        have hq : q ≠ p := fun eq => e (nd_ix T.nd (x := p) (by rw [List.getElem?_map, hp]; rfl) (by rw [List.getElem?_map, e1, eq]; rfl))
        exact ⟨q, qs, qr, e1, ⟨dq, h2 _ _ e2 hq⟩, hl _ _ B2.sz, hl _ _ B2.rt⟩
  · refine ⟨T.ok.wl, T.ok.w, by show (a.batches.modify b f).length ≤ 40; rw [List.length_modify]; exact T.ok.bl, fun y hy => ?_, T.ok.f, fun j y hj => ?_⟩
    · obtain ⟨j, hj⟩ := List.mem_iff_getElem?.mp hy
      have hj' : (a.batches.modify b f)[j]? = some y := hj
      rw [List.getElem?_modify] at hj'
      cases ej : a.batches[j]? with
      | none => rw [ej] at hj'; cases hj'
      | some z =>
      rw [ej] at hj'
      have hz := T.ok.b z (List.mem_of_getElem? ej)
      by_cases e : b = j
      · subst e
        have ez : z = x := Option.some.inj (ej.symm.trans hx)
        subst ez
        have ey : f z = y := by simpa using hj'
        subst ey
        exact ⟨by rw [hs]; exact hz.five, by rw [hs]; exact hz.pos, by rw [hr]; exact hz.root⟩
      · have ey : z = y := by simpa [e] using hj'
        subst ey
        exact hz
    · have hj' : (a.batches.modify b f)[j]? = some y := hj
      rw [List.getElem?_modify] at hj'
      cases ej : a.batches[j]? with
      | none => rw [ej] at hj'; cases hj'
      | some z =>
      rw [ej] at hj'
      have hz := T.ok.kg j z ej
      by_cases e : b = j
      · subst e
        have ez : z = x := Option.some.inj (ej.symm.trans hx)
        subst ez
        have ey : f z = y := by simpa using hj'
        subst ey
        rw [hs]
        exact hz
      · have ey : z = y := by simpa [e] using hj'
        subst ey
        exact hz
/-- one batch more -/
theorem Kit.addB (T : Kit CW CB CK H k a LW LB ws bs) {p sz rt : Addr} {x : Kv342.Batch} (ox : BatOk x) (hlen : a.batches.length < 40) (hkg : x.sizes.sum ≤ 50000 * 2 ^ a.batches.length) (hn : ∀ (j : Nat) (q : Addr × Addr × Addr), bs[j]? = some q → q.1 ≠ p)
    (hk : ∃ dx, H' k = some (.ins CK dx (kf true a LW LB))) (hl : H' LB = some (.lst ((bs ++ [(p, sz, rt)]).map fun b => V.ref b.1))) (B : Bat CB H' p sz rt x) (h2 : ∀ q o, H q = some o → q ≠ LB → q ≠ k → H' q = some o) :
    Kit CW CB CK H' k { a with batches := a.batches ++ [x] } LW LB ws (bs ++ [(p, sz, rt)]) := by
  obtain ⟨dk, hk0⟩ := T.kit
  have nl : ∀ q C dx fs, H q = some (.ins C dx fs) → q ≠ LB := fun q C dx fs h => ne_of h T.lb fun e => lst_ins e.symm
  have hlist : ∀ (q : Addr) (xs : List V), H q = some (.lst xs) → HO.lst xs ≠ .lst (bs.map fun b => V.ref b.1) → H' q = some (.lst xs) := fun q xs h d => h2 q _ h (ne_of h T.lb d) (ne_of h hk0 lst_ins)
  refine ⟨hk, ?_, hl, T.ne, T.wl, fun j y hy => ?_, ?_, fun j y hy => ?_, ?_, ?_⟩
  · exact h2 _ _ T.lw T.ne (ne_of T.lw hk0 lst_ins)
  · obtain ⟨q, dq, e1, e2⟩ := T.wa j y hy
    exact ⟨q, dq, e1, h2 _ _ e2 (nl _ _ _ _ e2) (ne_of e2 hk0 fun e => kf_wf e.symm)⟩
  · show (bs ++ [(p, sz, rt)]).length = (a.batches ++ [x]).length
    rw [List.length_append, List.length_append, T.bl]
    rfl
  · have hy' : (a.batches ++ [x])[j]? = some y := hy
    by_cases hj : j < a.batches.length
    · rw [List.getElem?_append_left hj] at hy'
      obtain ⟨q, qs, qr, e1, B2⟩ := T.ba j y hy'
      obtain ⟨dq, e2⟩ := B2.at_
      have oy := T.ok.b y (List.mem_of_getElem? hy')
      refine ⟨q, qs, qr, by rw [List.getElem?_append_left (by rw [T.bl]; exact hj)]; exact e1, ⟨dq, h2 _ _ e2 (nl _ _ _ _ e2) (ne_of e2 hk0 fun e => kf_bf e.symm)⟩, ?_, ?_⟩
      · exact hlist _ _ B2.sz (by rw [refs_fst]; exact ints_refs oy.ne)
      · exact hlist _ _ B2.rt (by rw [refs_fst]; exact ints_refs oy.root)
    · rw [List.getElem?_append_right (by omega)] at hy'
      obtain ⟨rfl, hj0⟩ : y = x ∧ j - a.batches.length = 0 := by
        cases e : j - a.batches.length with
        | zero => rw [e] at hy'; exact ⟨(Option.some.inj hy').symm, rfl⟩
        | succ n => rw [e] at hy'; cases hy'
      refine ⟨p, sz, rt, ?_, B⟩
      rw [List.getElem?_append_right (by rw [T.bl]; omega), T.bl, hj0]
      rfl
  · rw [List.map_append, List.nodup_append]
    refine ⟨T.nd, by simp, fun q hq r hr => ?_⟩
    obtain ⟨z, hz, rfl⟩ := List.mem_map.mp hq
    obtain ⟨j, hj⟩ := List.mem_iff_getElem?.mp hz
    have : r = p := by simpa using hr
    rw [this]
    exact hn j z hj
  · refine ⟨T.ok.wl, T.ok.w, by show (a.batches ++ [x]).length ≤ 40; rw [List.length_append]; show _ + 1 ≤ 40; omega, fun y hy => ?_, T.ok.f, fun j y hj => ?_⟩
    · rcases List.mem_append.mp (show y ∈ a.batches ++ [x] from hy) with h | h
      · exact T.ok.b y h
      · rw [List.mem_singleton.mp h]; exact ox
    · have hj' : (a.batches ++ [x])[j]? = some y := hj
      by_cases hl : j < a.batches.length
      · rw [List.getElem?_append_left hl] at hj'
        exact T.ok.kg j y hj'
      · rw [List.getElem?_append_right (by omega)] at hj'
        cases e : j - a.batches.length with
        | zero =>
          rw [e] at hj'
          obtain rfl := Option.some.inj hj'
          have : j = a.batches.length := by omega
          rw [this]
          exact hkg
        | succ n => rw [e] at hj'; cases hj'
/-- the kitchen's own numbers change -/
theorem Kit.setN (T : Kit CW CB CK H k a LW LB ws bs) {f c w p : Nat} (hf : f ≤ 12) (hk : ∃ dx, H' k = some (.ins CK dx (kf true { a with came := c, washed := w, packed := p, firsts := f } LW LB))) (h2 : ∀ q o, H q = some o → q ≠ k → H' q = some o) :
    Kit CW CB CK H' k { a with came := c, washed := w, packed := p, firsts := f } LW LB ws bs := by
  obtain ⟨dk, hk0⟩ := T.kit
  have hl : ∀ (q : Addr) (xs : List V), H q = some (.lst xs) → H' q = some (.lst xs) := fun q xs h => h2 q _ h (ne_of h hk0 lst_ins)
  refine ⟨hk, hl _ _ T.lw, hl _ _ T.lb, T.ne, T.wl, fun j y hy => ?_, T.bl, fun j y hy => ?_, T.nd, ⟨T.ok.wl, T.ok.w, T.ok.bl, T.ok.b, hf, T.ok.kg⟩⟩
  · obtain ⟨q, dq, e1, e2⟩ := T.wa j y hy
    exact ⟨q, dq, e1, h2 _ _ e2 (ne_of e2 hk0 fun e => kf_wf e.symm)⟩
  · obtain ⟨q, qs, qr, e1, B⟩ := T.ba j y hy
    obtain ⟨dq, e2⟩ := B.at_
    exact ⟨q, qs, qr, e1, ⟨dq, h2 _ _ e2 (ne_of e2 hk0 fun e => kf_bf e.symm)⟩, hl _ _ B.sz, hl _ _ B.rt⟩
/-- the text's answer as ints -/
abbrev Ls (l : List Int) : HO := .lst (l.map V.int)
/-- what stands behind a call on the kitchen: the kitchen as it is due, a new list with the answer, all else as it was -/
def Post (CW CB CK : Addr) (H : Hp) (k : Addr) (F : List Addr) (a' : Kv342.Abs) (ans : List Int) (Q : VK) : Prop :=
  ∀ (H' : Hp) (p LW LB : Addr) (ws : List Addr) (bs : List (Addr × Addr × Addr)), Kit CW CB CK H' k a' LW LB ws bs → H' p = some (Ls ans) → H p = none → (∀ q o, H q = some o → q ∉ F → H' q = some o) → (∀ q ∈ foot k LW LB ws bs, q ∈ F ∨ H q = none) → Q (.ref p) H'
theorem Post.new {p : Addr} {ans : List Int} {Q : VK} (q : Post CW CB CK H k (foot k LW LB ws bs) a ans Q) (T : Kit CW CB CK H k a LW LB ws bs) (s : Same H H') (hp : H' p = none) : Q (.ref p) (upd H' p (Ls ans)) := by
  have s2 : Same H (upd H' p (Ls ans)) := fun b o e => Same.new hp b o (s b o e)
  exact q _ p LW LB ws bs (T.same s2) upd_same (s.free hp) (fun b o e _ => s2 b o e) fun b hb => .inl hb
/-- the promise of a def that answers a call -/
def spc (CW CB CK : Addr) (args : List V) (cl : Kv342.Call) : List V → Hp → VK → Prop := fun vs H Q => ∃ (k : Addr) (a : Kv342.Abs) (LW LB : Addr) (ws : List Addr) (bs : List (Addr × Addr × Addr)), vs = .ref k :: args ∧ Kit CW CB CK H k a LW LB ws bs ∧
  Post CW CB CK H k (foot k LW LB ws bs) (a.does cl).1 (Kv342Neutral.row (a.does cl).2) Q
end
end Bl
end
section
set_option Elab.async false
set_option linter.all false
set_option maxRecDepth 100000
set_option maxHeartbeats 2000000
namespace Bl
open PySem PySem.Spec PyProof.Rows L2
/-! ### tests that stand often -/
theorem ite_nd {c A B : Prop} [Decidable c] (h1 : ¬ c → A) (h2 : c → B) : if (!decide c) = true then A else B := by
  by_cases h : c
  · rw [decide_eq_true h]
    exact h2 h
  · rw [decide_eq_false h]
    exact h1 h
theorem ite_b {c : Bool} {A B : Prop} (h1 : c = true → A) (h2 : c = false → B) : if c = true then A else B := by
  cases c with
  | true => exact h1 rfl
  | false => exact h2 rfl
theorem ite_nb {c : Bool} {A B : Prop} (h1 : c = false → A) (h2 : c = true → B) : if (!c) = true then A else B := by
  cases c with
  | true => exact h2 rfl
  | false => exact h1 rfl
theorem eqI_iff {a b : Nat} : (I a = I b) ↔ a = b := ⟨fun e => by injection e with e; exact Int.ofNat.inj e, fun e => by rw [e]⟩
theorem ite_d {c A B : Prop} [Decidable c] (h1 : c → A) (h2 : ¬ c → B) : if decide c = true then A else B := by
  by_cases h : c
  · rw [decide_eq_true h]
    exact h1 h
  · rw [decide_eq_false h]
    exact h2 h
section
variable {P : Program} {w : World} {K : PySem.W.Frag} {mg : Str → Option Value} {base : Heap} {CW CB CK : Addr} {H : Hp} {k : Addr} {a : Kv342.Abs} {LW LB : Addr} {ws : List Addr} {bs : List (Addr × Addr × Addr)} {σ : L2.St}
theorem rd_hb {i j b : Nat} {Q : Bool → Hp → Prop} (T : Kit CW CB CK H k a LW LB ws bs) (h1 : σ[i]? = some (some (.ref k))) (h2 : σ[j]? = some (some (I b))) (h : Q (decide (b < a.batches.length)) H) :
    tB (tCall (sp_has_batch CW CB CK) [] E0 (tCons (tVar i) (tCons (tVar j) tNil))) σ H Q := ⟨_, h1, _, h2, k, a, b, rfl, ⟨LW, LB, ws, bs, T⟩, _, rfl, h⟩
theorem rd_hw {i j b : Nat} {Q : Bool → Hp → Prop} (T : Kit CW CB CK H k a LW LB ws bs) (h1 : σ[i]? = some (some (.ref k))) (h2 : σ[j]? = some (some (I b))) (h : Q (decide (b < a.warms.length)) H) :
    tB (tCall (sp_has_warmth CW CB CK) [] E0 (tCons (tVar i) (tCons (tVar j) tNil))) σ H Q := ⟨_, h1, _, h2, k, a, b, rfl, ⟨LW, LB, ws, bs, T⟩, _, rfl, h⟩
theorem has_t {b : Nat} (h : b < a.batches.length) : a.has b = true := decide_eq_true h
theorem has_f {b : Nat} (h : ¬ b < a.batches.length) : a.has b = false := decide_eq_false h
theorem hasW_t {b : Nat} (h : b < a.warms.length) : a.hasW b = true := decide_eq_true h
theorem hasW_f {b : Nat} (h : ¬ b < a.warms.length) : a.hasW b = false := decide_eq_false h
/-- a list of one number is answered -/
theorem one_ok : ([V.int z] : List V).length ≤ sizeLine := by show 1 ≤ sizeLine; decide
theorem rd_bat {i j b : Nat} {p sz rt : Addr} {Q : VK} (C : Cl K CW CB CK) (T : Kit CW CB CK H k a LW LB ws bs) (h1 : σ[i]? = some (some (.ref k))) (h2 : σ[j]? = some (some (I b))) (hp : bs[b]? = some (p, sz, rt)) (h : Q (.ref p) H) :
    tOp (rIxL K) (tFld K (tVar i) "batches") (tVar j) σ H Q := by
  obtain ⟨dx, hk⟩ := T.kit
  exact ⟨_, h1, k, CK, dx, _, _, rfl, hk, C.k, C.batches, rfl, _, h2, LB, _, _, _, rfl, rfl, SqL.of T.lb, atI_bat hp, h⟩
def sp_is_mesh : Sp := fun vs H Q _ => ∃ m : Nat, vs = [I m] ∧ Q (.bl (decide (1 ≤ m ∧ m ≤ 4))) H
theorem sc_is_mesh : FnScope ["m"] ["m"] (defScope s_is_mesh) := ⟨rfl, rfl, rfl, by decide +kernel, rfl, by decide +kernel, by decide +kernel⟩
theorem ok_is_mesh (R : Raw K mg "is_mesh" s_is_mesh ["m"]) (T : Cst mg) : Def P w K mg base 1 "is_mesh" ["m"] sp_is_mesh := by
  refine R.ok sc_is_mesh (fun vs H Q E h => ?_) (fun f cdv A outer s H vs Q E hr h => ?_)
  · obtain ⟨m, rfl, _⟩ := h
    rfl
  · obtain ⟨m, rfl, q⟩ := h
    refine ⟨_, pss_one (ps_ret (pe_chain op_le op_lt pe_int (pv 0) (pe_cst T.SIZE_COUNT))), ?_⟩
    refine ⟨_, rfl, _, _, rfl, rfl, _, rfl, ite_d (fun h1 => ?_) fun h1 => ?_⟩
    · refine ⟨_, _, rfl, rfl, ?_⟩
      have e : decide (1 ≤ m ∧ m ≤ 4) = decide (((m : Nat) : Int) < 5) := decide_eq_decide.mpr (by omega)
      rw [e] at q
      exact q
    · rw [decide_eq_false (by omega)] at q
      exact q
theorem rd_mesh {i m : Nat} {Q : Bool → Hp → Prop} (h1 : σ[i]? = some (some (I m))) (h : Q (decide (1 ≤ m ∧ m ≤ 4)) H) : tB (tCall sp_is_mesh [] E0 (tCons (tVar i) tNil)) σ H Q := ⟨_, h1, m, rfl, _, rfl, h⟩
def sp_is_done (CW CB CK : Addr) : Sp := fun vs H Q _ => ∃ (k : Addr) (a : Kv342.Abs) (p sz rt : Addr) (x : Kv342.Batch), vs = [.ref k, .ref p] ∧ KitE CW CB CK H k a ∧ Bat CB H p sz rt x ∧ Q (.bl (decide (x.waste = 0 ∧ x.alive ≤ a.limit))) H
theorem sc_is_done : FnScope ["kitchen", "batch"] ["kitchen", "batch"] (defScope s_is_done) := ⟨rfl, rfl, rfl, by decide +kernel, rfl, by decide +kernel, by decide +kernel⟩
theorem ok_is_done (R : Raw K mg "is_done" s_is_done ["kitchen", "batch"]) (C : Cl K CW CB CK) (Dle : Def P w K mg base 1 "is_little_enough" ["kitchen", "alive"] (sp_is_little_enough CW CB CK)) : Def P w K mg base 2 "is_done" ["kitchen", "batch"] (sp_is_done CW CB CK) := by
  refine R.ok sc_is_done (fun vs H Q E h => ?_) (fun f cdv A outer s H vs Q E hr h => ?_)
  · obtain ⟨k, a, p, sz, rt, x, rfl, _⟩ := h
    rfl
  · obtain ⟨k, a, p, sz, rt, x, rfl, KE, B, q⟩ := h
    obtain ⟨dx, hp⟩ := B.at_
    refine ⟨_, pss_one (ps_ret (pe_and (pe_cmpR op_eq (pe_fld (pv 1) rfl) pe_int (nomark _)) (pe_one (pe_def Dle hr (pa_cons (pv 0) (pa_cons (pe_fld (pv 1) rfl) pa_nil)))))), ?_⟩
    refine ⟨_, rfl, p, CB, dx, _, _, rfl, hp, C.b, C.waste, rfl, rfl, _, rfl, ite_d (fun h => ?_) fun h => ?_⟩
    · have h : x.waste = 0 := eqI_iff.mp (show I x.waste = I 0 from h)
      refine ⟨_, rfl, _, rfl, p, CB, dx, _, _, rfl, hp, C.b, C.alive, rfl, k, a, x.alive, rfl, KE, ?_⟩
      have e : decide (x.waste = 0 ∧ x.alive ≤ a.limit) = decide (x.alive ≤ a.limit) := decide_eq_decide.mpr ⟨fun q => q.2, fun q => ⟨h, q⟩⟩
      rw [e] at q
      exact q
    · rw [decide_eq_false (fun e => h (show I x.waste = I 0 by rw [e.1]))] at q
      exact q
theorem sc_tell_alive : FnScope ["kitchen", "b", "batch"] ["kitchen", "b"] (defScope s_tell_alive) := ⟨rfl, rfl, rfl, by decide +kernel, rfl, by decide +kernel, by decide +kernel⟩
def sp_tell_alive (CW CB CK : Addr) : Sp := fun vs H Q _ => ∃ b : Nat, spc CW CB CK [I b] (.alive b) vs H Q
theorem ok_tell_alive (R : Raw K mg "tell_alive" s_tell_alive ["kitchen", "b"]) (T : Cst mg) (C : Cl K CW CB CK) (Dhb : Def P w K mg base 1 "has_batch" ["kitchen", "b"] (sp_has_batch CW CB CK)) : Def P w K mg base 2 "tell_alive" ["kitchen", "b"] (sp_tell_alive CW CB CK) := by
  refine R.ok sc_tell_alive (fun vs H Q E h => ?_) (fun f cdv A outer s H vs Q E hr h => ?_)
  · obtain ⟨b, k, a, LW, LB, ws, bs, rfl, _⟩ := h
    rfl
  · obtain ⟨b, k, a, LW, LB, ws, bs, rfl, KT, q⟩ := h
    refine ⟨_, pss_cons (ps_if (pt_not (pt_val (pe_def Dhb hr (pa_cons (pv 0) (pa_cons (pv 1) pa_nil))))) (pss_one (ps_ret (pe_lst (pa_cons (pe_cst T.NO_SUCH) pa_nil)))) pss_nil)
      (pss_cons (ps_set (i := 2) sc_tell_alive.nd rfl (Or.inl rfl) (pe_ix ix_list (pe_fld (pv 0) rfl) (pv 1) (fun _ _ => rfl)))
      (pss_one (ps_ret (pe_lst (pa_cons (pe_fld (pv 2) rfl) (pa_cons (pe_fld (pv 2) rfl) pa_nil)))))), ?_⟩
    refine rd_hb KT rfl rfl (ite_nd (fun hb => ?_) fun hb => ?_)
    · refine ⟨one_ok, fun p hp => ?_⟩
      have e : a.does (.alive b) = (a, Kv342.say (-2)) := by show (if a.has b = false then _ else _) = _; rw [has_f hb, if_pos rfl]
      rw [e] at q
      exact q.new KT (Same.refl H) hp
    · obtain ⟨x, hx⟩ : ∃ x, a.batches[b]? = some x := ⟨_, List.getElem?_eq_getElem hb⟩
      obtain ⟨p, sz, rt, hp, B⟩ := KT.ba b x hx
      obtain ⟨dx, hpx⟩ := B.at_
      have e : a.does (.alive b) = (a, ⟨((a.batch b).alive : Nat), [(a.batch b).green]⟩) := by show (if a.has b = false then _ else _) = _; rw [has_t hb, if_neg (by decide)]
      rw [e, batch_at hx] at q
      refine rd_bat C KT rfl rfl hp ?_
      refine ⟨_, rfl, p, CB, dx, _, _, rfl, hpx, C.b, C.alive, rfl, _, rfl, p, CB, dx, _, _, rfl, hpx, C.b, C.green, rfl, (by show 2 ≤ sizeLine; decide), fun r hr' => ?_⟩
      exact q.new KT (Same.refl H) hr'
end
end Bl
end
section
set_option Elab.async false
set_option linter.all false
set_option maxRecDepth 100000
set_option maxHeartbeats 2000000
namespace Bl
open PySem PySem.Spec PyProof.Rows L2
section
variable {P : Program} {w : World} {K : PySem.W.Frag} {mg : Str → Option Value} {base : Heap} {CW CB CK : Addr} {H : Hp} {k : Addr} {a : Kv342.Abs} {LW LB : Addr} {ws : List Addr} {bs : List (Addr × Addr × Addr)} {σ : L2.St}
/-- no such batch or warmth -/
theorem rd_bw {i j l b v : Nat} {Q : Bool → Hp → Prop} (T : Kit CW CB CK H k a LW LB ws bs) (h1 : σ[i]? = some (some (.ref k))) (h2 : σ[j]? = some (some (I b))) (h3 : σ[l]? = some (some (I v)))
    (n : a.has b = false ∨ a.hasW v = false → Q true H) (y : b < a.batches.length → v < a.warms.length → Q false H) :
    tOr (tNot (tB (tCall (sp_has_batch CW CB CK) [] E0 (tCons (tVar i) (tCons (tVar j) tNil))))) (tNot (tB (tCall (sp_has_warmth CW CB CK) [] E0 (tCons (tVar i) (tCons (tVar l) tNil))))) σ H Q := by
  refine rd_hb T h1 h2 (ite_nd (fun hb => n (.inl (has_f hb))) fun hb => rd_hw T h1 h3 ?_)
  by_cases hw : v < a.warms.length
  · rw [decide_eq_true hw]
    exact y hb hw
  · rw [decide_eq_false hw]
    exact n (.inr (hasW_f hw))
theorem bw_no {b v : Nat} (h1 : b < a.batches.length) (h2 : v < a.warms.length) : ¬ (a.has b = false ∨ a.hasW v = false) := by
  rw [has_t h1, hasW_t h2]
  decide
theorem sc_tell_would : FnScope ["kitchen", "b", "w", "s", "alive", "enough"] ["kitchen", "b", "w", "s"] (defScope s_tell_would) := ⟨rfl, rfl, rfl, by decide +kernel, rfl, by decide +kernel, by decide +kernel⟩
def sp_tell_would (CW CB CK : Addr) : Sp := fun vs H Q _ => ∃ b v s : Nat, spc CW CB CK [I b, I v, I s] (.would b v s) vs H Q
theorem ok_tell_would (R : Raw K mg "tell_would" s_tell_would ["kitchen", "b", "w", "s"]) (T : Cst mg) (C : Cl K CW CB CK) (Dhb : Def P w K mg base 1 "has_batch" ["kitchen", "b"] (sp_has_batch CW CB CK)) (Dhw : Def P w K mg base 1 "has_warmth" ["kitchen", "w"] (sp_has_warmth CW CB CK))
    (Daa : Def P w K mg base 3 "alive_after" ["kitchen", "b", "w", "seconds"] (sp_alive_after CW CB CK)) (Dga : Def P w K mg base 3 "green_after" ["kitchen", "b", "w", "seconds"] (sp_green_after CW CB CK)) (Dle : Def P w K mg base 1 "is_little_enough" ["kitchen", "alive"] (sp_is_little_enough CW CB CK)) :
    Def P w K mg base 4 "tell_would" ["kitchen", "b", "w", "s"] (sp_tell_would CW CB CK) := by
  refine R.ok sc_tell_would (fun vs H Q E h => ?_) (fun f cdv A outer s H vs Q E hr h => ?_)
  · obtain ⟨b, v, s, k, a, LW, LB, ws, bs, rfl, _⟩ := h
    rfl
  · obtain ⟨b, v, c, k, a, LW, LB, ws, bs, rfl, KT, q⟩ := h
    have hr1 : Room 1 _ := hr.mono (by decide)
    refine ⟨_, pss_cons (ps_if (PW.pt (pw_or (pt_not (pt_val (pe_def Dhb hr1 (pa_cons (pv 0) (pa_cons (pv 1) pa_nil))))) (pw_or1 (pt_not (pt_val (pe_def Dhw hr1 (pa_cons (pv 0) (pa_cons (pv 2) pa_nil)))))))) (pss_one (ps_ret (pe_lst (pa_cons (pe_cst T.NO_SUCH) pa_nil)))) pss_nil)
      (pss_cons (ps_if (pt_cmpR op_gt (pv 3) (pe_cst T.LONGEST) (nomark _)) (pss_one (ps_ret (pe_lst (pa_cons (pe_cst T.OUT_OF_RANGE) pa_nil)))) pss_nil)
      (pss_cons (ps_set (i := 4) sc_tell_would.nd rfl (Or.inl rfl) (pe_def Daa hr (pa_cons (pv 0) (pa_cons (pv 1) (pa_cons (pv 2) (pa_cons (pv 3) pa_nil))))))
      (pss_cons (ps_set (i := 5) sc_tell_would.nd rfl (Or.inl rfl) (pe_ifExp (pt_val (pe_def Dle hr1 (pa_cons (pv 0) (pa_cons (pv 4) pa_nil)))) pe_int pe_int))
      (pss_one (ps_ret (pe_lst (pa_cons (pv 4) (pa_cons (pe_def Dga hr (pa_cons (pv 0) (pa_cons (pv 1) (pa_cons (pv 2) (pa_cons (pv 3) pa_nil))))) (pa_cons (pv 5) pa_nil)))))))))
      , ?_⟩
    refine rd_bw KT rfl rfl rfl (fun hn => iteT ?_) fun hb hv => iteF ?_
    · refine ⟨one_ok, fun p hp => ?_⟩
      have e : a.does (.would b v c) = (a, Kv342.say (-2)) := if_pos hn
      rw [e] at q
      exact q.new KT (Same.refl H) hp
    · have e0 : a.does (.would b v c) = (if 600 < c then (a, Kv342.say (-22)) else (a, ⟨(((a.batch b).heated (a.warm v) c).alive : Nat), [((a.batch b).heated (a.warm v) c).green, Kv342.bit (((a.batch b).heated (a.warm v) c).alive ≤ a.limit)]⟩)) := if_neg (bw_no hb hv)
      refine ⟨_, rfl, _, _, rfl, rfl, _, rfl, ite_d (fun hc => ?_) fun hc => ?_⟩
      · refine ⟨one_ok, fun p hp => ?_⟩
        rw [e0, if_pos (by omega)] at q
        exact q.new KT (Same.refl H) hp
      · obtain ⟨x, hx⟩ : ∃ x, a.batches[b]? = some x := ⟨_, List.getElem?_eq_getElem hb⟩
        obtain ⟨y, hy⟩ : ∃ y, a.warms[v]? = some y := ⟨_, List.getElem?_eq_getElem hv⟩
        have h6 : c ≤ 600 := by omega
        rw [e0, if_neg (by omega), batch_at hx, warm_at hy] at q
        have KE : KitE CW CB CK H k a := ⟨LW, LB, ws, bs, KT⟩
        refine ⟨_, rfl, _, rfl, _, rfl, _, rfl, k, a, b, v, c, x, y, rfl, h6, KE, hx, hy, ?_⟩
        refine ⟨_, rfl, _, rfl, k, a, _, rfl, KE, _, rfl, ite_d (fun hl => ?_) fun hl => ?_⟩
        all_goals
          refine ⟨_, rfl, _, rfl, _, rfl, _, rfl, _, rfl, k, a, b, v, c, x, y, rfl, h6, KE, hx, hy, _, rfl, (by show 3 ≤ sizeLine; decide), fun p hp => ?_⟩
          have q2 := q.new KT (Same.refl H) hp
          unfold Kv342.Batch.heated at q2
          dsimp only at q2
          first | rw [decide_eq_true hl] at q2 | rw [decide_eq_false hl] at q2
          exact q2
theorem sc_tell_need : FnScope ["kitchen", "b", "w", "seconds"] ["kitchen", "b", "w"] (defScope s_tell_need) := ⟨rfl, rfl, rfl, by decide +kernel, rfl, by decide +kernel, by decide +kernel⟩
def sp_tell_need (CW CB CK : Addr) : Sp := fun vs H Q _ => ∃ b v : Nat, spc CW CB CK [I b, I v] (.need b v) vs H Q
theorem ok_tell_need (R : Raw K mg "tell_need" s_tell_need ["kitchen", "b", "w"]) (T : Cst mg) (C : Cl K CW CB CK) (Dhb : Def P w K mg base 1 "has_batch" ["kitchen", "b"] (sp_has_batch CW CB CK)) (Dhw : Def P w K mg base 1 "has_warmth" ["kitchen", "w"] (sp_has_warmth CW CB CK))
    (Dsn : Def P w K mg base 3 "seconds_needed" ["kitchen", "b", "w"] (sp_seconds_needed CW CB CK)) : Def P w K mg base 4 "tell_need" ["kitchen", "b", "w"] (sp_tell_need CW CB CK) := by
  refine R.ok sc_tell_need (fun vs H Q E h => ?_) (fun f cdv A outer s H vs Q E hr h => ?_)
  · obtain ⟨b, v, k, a, LW, LB, ws, bs, rfl, _⟩ := h
    rfl
  · obtain ⟨b, v, k, a, LW, LB, ws, bs, rfl, KT, q⟩ := h
    have hr1 : Room 1 _ := hr.mono (by decide)
    refine ⟨_, pss_cons (ps_if (PW.pt (pw_or (pt_not (pt_val (pe_def Dhb hr1 (pa_cons (pv 0) (pa_cons (pv 1) pa_nil))))) (pw_or1 (pt_not (pt_val (pe_def Dhw hr1 (pa_cons (pv 0) (pa_cons (pv 2) pa_nil)))))))) (pss_one (ps_ret (pe_lst (pa_cons (pe_cst T.NO_SUCH) pa_nil)))) pss_nil)
      (pss_cons (ps_set (i := 3) sc_tell_need.nd rfl (Or.inl rfl) (pe_def Dsn hr (pa_cons (pv 0) (pa_cons (pv 1) (pa_cons (pv 2) pa_nil)))))
      (pss_cons (ps_if (pt_cmp (pc_isN (pv 3))) (pss_one (ps_ret (pe_lst (pa_cons (pe_cst T.NOT_SO) pa_nil)))) pss_nil)
      (pss_one (ps_ret (pe_lst (pa_cons (pv 3) pa_nil)))))), ?_⟩
    refine rd_bw KT rfl rfl rfl (fun hn => iteT ?_) fun hb hv => iteF ?_
    · refine ⟨one_ok, fun p hp => ?_⟩
      have e : a.does (.need b v) = (a, Kv342.say (-2)) := if_pos hn
      rw [e] at q
      exact q.new KT (Same.refl H) hp
    · obtain ⟨x, hx⟩ : ∃ x, a.batches[b]? = some x := ⟨_, List.getElem?_eq_getElem hb⟩
      obtain ⟨y, hy⟩ : ∃ y, a.warms[v]? = some y := ⟨_, List.getElem?_eq_getElem hv⟩
      have e0 : a.does (.need b v) = (a, Kv342.tell (a.need (a.batch b) v)) := if_neg (bw_no hb hv)
      rw [e0, batch_at hx] at q
      unfold Kv342.Abs.need at q
      rw [warm_at hy] at q
      refine ⟨_, rfl, _, rfl, _, rfl, k, a, b, v, x, y, rfl, ⟨LW, LB, ws, bs, KT⟩, hx, hy, ?_⟩
      cases hl : Kv342.least y.kills a.limit x.alive with
      | none =>
        rw [hl] at q
        refine ⟨_, rfl, _, rfl, ite_d (fun _ => ?_) fun hc => absurd rfl hc⟩
        exact ⟨one_ok, fun p hp => q.new KT (Same.refl H) hp⟩
      | some n =>
        rw [hl] at q
        refine ⟨_, rfl, _, rfl, ite_d (fun hc => by cases hc) fun _ => ?_⟩
        exact ⟨_, rfl, one_ok, fun p hp => q.new KT (Same.refl H) hp⟩
theorem sc_tell_leaves : FnScope ["kitchen", "b", "w", "seconds"] ["kitchen", "b", "w"] (defScope s_tell_leaves) := ⟨rfl, rfl, rfl, by decide +kernel, rfl, by decide +kernel, by decide +kernel⟩
def sp_tell_leaves (CW CB CK : Addr) : Sp := fun vs H Q _ => ∃ b v : Nat, spc CW CB CK [I b, I v] (.leaves b v) vs H Q
theorem ok_tell_leaves (R : Raw K mg "tell_leaves" s_tell_leaves ["kitchen", "b", "w"]) (T : Cst mg) (C : Cl K CW CB CK) (Dhb : Def P w K mg base 1 "has_batch" ["kitchen", "b"] (sp_has_batch CW CB CK)) (Dhw : Def P w K mg base 1 "has_warmth" ["kitchen", "w"] (sp_has_warmth CW CB CK))
    (Dsn : Def P w K mg base 3 "seconds_needed" ["kitchen", "b", "w"] (sp_seconds_needed CW CB CK)) (Dga : Def P w K mg base 3 "green_after" ["kitchen", "b", "w", "seconds"] (sp_green_after CW CB CK)) : Def P w K mg base 4 "tell_leaves" ["kitchen", "b", "w"] (sp_tell_leaves CW CB CK) := by
  refine R.ok sc_tell_leaves (fun vs H Q E h => ?_) (fun f cdv A outer s H vs Q E hr h => ?_)
  · obtain ⟨b, v, k, a, LW, LB, ws, bs, rfl, _⟩ := h
    rfl
  · obtain ⟨b, v, k, a, LW, LB, ws, bs, rfl, KT, q⟩ := h
    have hr1 : Room 1 _ := hr.mono (by decide)
    refine ⟨_, pss_cons (ps_if (PW.pt (pw_or (pt_not (pt_val (pe_def Dhb hr1 (pa_cons (pv 0) (pa_cons (pv 1) pa_nil))))) (pw_or1 (pt_not (pt_val (pe_def Dhw hr1 (pa_cons (pv 0) (pa_cons (pv 2) pa_nil)))))))) (pss_one (ps_ret (pe_lst (pa_cons (pe_cst T.NO_SUCH) pa_nil)))) pss_nil)
      (pss_cons (ps_set (i := 3) sc_tell_leaves.nd rfl (Or.inl rfl) (pe_def Dsn hr (pa_cons (pv 0) (pa_cons (pv 1) (pa_cons (pv 2) pa_nil)))))
      (pss_cons (ps_if (pt_cmp (pc_isN (pv 3))) (pss_one (ps_ret (pe_lst (pa_cons (pe_cst T.NOT_SO) pa_nil)))) pss_nil)
      (pss_one (ps_ret (pe_lst (pa_cons (pe_def Dga hr (pa_cons (pv 0) (pa_cons (pv 1) (pa_cons (pv 2) (pa_cons (pv 3) pa_nil))))) pa_nil)))))), ?_⟩
    refine rd_bw KT rfl rfl rfl (fun hn => iteT ?_) fun hb hv => iteF ?_
    · refine ⟨one_ok, fun p hp => ?_⟩
      have e : a.does (.leaves b v) = (a, Kv342.say (-2)) := if_pos hn
      rw [e] at q
      exact q.new KT (Same.refl H) hp
    · obtain ⟨x, hx⟩ : ∃ x, a.batches[b]? = some x := ⟨_, List.getElem?_eq_getElem hb⟩
      obtain ⟨y, hy⟩ : ∃ y, a.warms[v]? = some y := ⟨_, List.getElem?_eq_getElem hv⟩
      have e0 : a.does (.leaves b v) = (a, Kv342.tell (a.leaves (a.batch b) v)) := if_neg (bw_no hb hv)
      rw [e0, batch_at hx] at q
      unfold Kv342.Abs.leaves Kv342.Abs.need at q
      rw [warm_at hy] at q
      refine ⟨_, rfl, _, rfl, _, rfl, k, a, b, v, x, y, rfl, ⟨LW, LB, ws, bs, KT⟩, hx, hy, ?_⟩
      cases hl : Kv342.least y.kills a.limit x.alive with
      | none =>
        rw [hl] at q
        refine ⟨_, rfl, _, rfl, ite_d (fun _ => ?_) fun hc => absurd rfl hc⟩
        exact ⟨one_ok, fun p hp => q.new KT (Same.refl H) hp⟩
      | some n =>
        rw [hl] at q
        refine ⟨_, rfl, _, rfl, ite_d (fun hc => by cases hc) fun _ => ?_⟩
        exact ⟨_, rfl, _, rfl, _, rfl, _, rfl, k, a, b, v, n, x, y, rfl, by have := least_lt hl; omega, ⟨LW, LB, ws, bs, KT⟩, hx, hy, one_ok, fun p hp => q.new KT (Same.refl H) hp⟩
end
end Bl
end
section
set_option Elab.async false
set_option linter.all false
set_option maxRecDepth 100000
set_option maxHeartbeats 2000000
namespace Bl
open PySem PySem.Spec PyProof.Rows L2
/-- the best warmth among the first so many -/
def bestTo (a : Kv342.Abs) (x : Kv342.Batch) (i : Nat) : Option Nat := (List.range i).foldl (fun b w => match a.leaves x w, b with
  | none, b => b
  | some _, none => some w
  | some n, some v => if (a.leaves x v).getD 0 < n then some w else some v) none
theorem bestTo_succ (a : Kv342.Abs) (x : Kv342.Batch) (i : Nat) : bestTo a x (i + 1) = match a.leaves x i, bestTo a x i with
  | none, b => b
  | some _, none => some i
  | some n, some v => if (a.leaves x v).getD 0 < n then some i else some v := by
  unfold bestTo
  rw [List.range_succ, List.foldl_append]
  rfl
section
variable {P : Program} {w : World} {K : PySem.W.Frag} {mg : Str → Option Value} {base : Heap} {CW CB CK : Addr} {H H' : Hp} {k : Addr} {a : Kv342.Abs} {LW LB : Addr} {ws : List Addr} {bs : List (Addr × Addr × Addr)} {σ : L2.St}
theorem Post.at_ {p : Addr} {ans : List Int} {Q : VK} (q : Post CW CB CK H k (foot k LW LB ws bs) a ans Q) (T : Kit CW CB CK H k a LW LB ws bs) (s : Same H H') (hp : H p = none) (hl : H' p = some (Ls ans)) : Q (.ref p) H' :=
  q _ p LW LB ws bs (T.same s) hl hp (fun b o e _ => s b o e) fun b hb => .inl hb
/-- what stands at best -/
def BestAt (H H' : Hp) (a : Kv342.Abs) (x : Kv342.Batch) (bv : V) : Option Nat → Prop
  | none => bv = .non
  | some u => ∃ p, bv = .ref p ∧ H p = none ∧ H' p = some (.lst [I u, I ((a.need x u).getD 0), I ((a.leaves x u).getD 0)])
theorem BestAt.same {x : Kv342.Batch} {bv : V} {H2 : Hp} : ∀ {o : Option Nat}, BestAt H H' a x bv o → Same H' H2 → BestAt H H2 a x bv o
  | none, h, _ => h
  | some u, ⟨p, h1, h2, h3⟩, s => ⟨p, h1, h2, s _ _ h3⟩
theorem sc_tell_best : FnScope ["kitchen", "b", "best", "w", "seconds", "green"] ["kitchen", "b"] (defScope s_tell_best) := ⟨rfl, rfl, rfl, by decide +kernel, rfl, by decide +kernel, by decide +kernel⟩
def sp_tell_best (CW CB CK : Addr) : Sp := fun vs H Q _ => ∃ b : Nat, spc CW CB CK [I b] (.best b) vs H Q
theorem ok_tell_best (R : Raw K mg "tell_best" s_tell_best ["kitchen", "b"]) (T : Cst mg) (C : Cl K CW CB CK) (Dhb : Def P w K mg base 1 "has_batch" ["kitchen", "b"] (sp_has_batch CW CB CK))
    (Dsn : Def P w K mg base 3 "seconds_needed" ["kitchen", "b", "w"] (sp_seconds_needed CW CB CK)) (Dga : Def P w K mg base 3 "green_after" ["kitchen", "b", "w", "seconds"] (sp_green_after CW CB CK)) : Def P w K mg base 4 "tell_best" ["kitchen", "b"] (sp_tell_best CW CB CK) := by
  refine R.ok sc_tell_best (fun vs H Q E h => ?_) (fun f cdv A outer s H vs Q E hr h => ?_)
  · obtain ⟨b, k, a, LW, LB, ws, bs, rfl, _⟩ := h
    rfl
  · obtain ⟨b, k, a, LW, LB, ws, bs, rfl, KT, q⟩ := h
    have hr1 : Room 1 _ := hr.mono (by decide)
    refine ⟨_, pss_cons (ps_if (pt_not (pt_val (pe_def Dhb hr1 (pa_cons (pv 0) (pa_cons (pv 1) pa_nil))))) (pss_one (ps_ret (pe_lst (pa_cons (pe_cst T.NO_SUCH) pa_nil)))) pss_nil)
      (pss_cons (ps_set (i := 2) sc_tell_best.nd rfl (Or.inl rfl) pe_non)
      (pss_cons (ps_for PassesOwn.never rfl (pi_range1 rfl T.range (pa_cons (pe_callB call_len_seq (by rfl) T.len PySem.boot_len (pa_cons (pe_fld (pv 0) rfl) pa_nil)) pa_nil)) (pg_name (i := 3) sc_tell_best.nd rfl (Or.inl rfl))
        (pss_cons (ps_set (i := 4) sc_tell_best.nd rfl (Or.inl rfl) (pe_def Dsn hr (pa_cons (pv 0) (pa_cons (pv 1) (pa_cons (pv 3) pa_nil)))))
        (pss_cons (ps_if (pt_cmp (pc_isN (pv 4))) (pss_one ps_continue) pss_nil)
        (pss_cons (ps_set (i := 5) sc_tell_best.nd rfl (Or.inl rfl) (pe_def Dga hr (pa_cons (pv 0) (pa_cons (pv 1) (pa_cons (pv 3) (pa_cons (pv 4) pa_nil))))))
        (pss_one (ps_if (PW.pt (pw_or (pt_cmp (pc_isN (pv 2))) (pw_or1 (pt_cmpR op_gt (pv 5) (pe_ix ix_list (pv 2) pe_int (fun _ _ => rfl)) (nomark _))))) (pss_one (ps_set (i := 2) sc_tell_best.nd rfl (Or.inl rfl) (pe_lst (pa_cons (pv 3) (pa_cons (pv 4) (pa_cons (pv 5) pa_nil)))))) pss_nil))))))
      (pss_cons (ps_if (pt_cmp (pc_isN (pv 2))) (pss_one (ps_ret (pe_lst (pa_cons (pe_cst T.NOT_SO) pa_nil)))) pss_nil)
      (pss_one (ps_ret (pv 2)))))), ?_⟩
    refine rd_hb KT rfl rfl (ite_nd (fun hb => ?_) fun hb => ?_)
    · refine ⟨one_ok, fun p hp => ?_⟩
      have e : a.does (.best b) = (a, Kv342.say (-2)) := by show (if a.has b = false then _ else _) = _; rw [has_f hb, if_pos rfl]
      rw [e] at q
      exact q.new KT (Same.refl H) hp
    · obtain ⟨x, hx⟩ : ∃ x, a.batches[b]? = some x := ⟨_, List.getElem?_eq_getElem hb⟩
      have e : a.does (.best b) = (match a.best (a.batch b) with
        | none => (a, Kv342.say (-33))
        | some w => (a, ⟨(w : Nat), [(a.need (a.batch b) w).getD 0, (a.leaves (a.batch b) w).getD 0]⟩)) := by show (if a.has b = false then _ else _) = _; rw [has_t hb, if_neg (by decide)]; rfl
      rw [e, batch_at hx, show a.best x = bestTo a x a.warms.length from rfl] at q
      obtain ⟨dk, hk⟩ := KT.kit
      have h5 := KT.ok.wl
      have hlen : (ws.map V.ref).length = a.warms.length := by rw [List.length_map, KT.wl]
      refine ⟨_, rfl, k, CK, dk, _, _, rfl, hk, C.k, C.warmths, rfl, LW, _, rfl, .inl (SqL.of KT.lw), ((a.warms.length : Nat) : Int), by rw [hlen], by omega, by omega, for_range (n := a.warms.length) (fun i σ H' => ∃ (bv : V) (v3 v4 v5 : Option V), σ = [some (.ref k), some (I b), some bv, v3, v4, v5] ∧ Same H H' ∧ BestAt H H' a x bv (bestTo a x i))
        ⟨.non, none, none, none, rfl, Same.refl H, rfl⟩ ?_ ?_⟩
      · rintro i σ H' hi ⟨bv, v3, v4, v5, rfl, sm, hB⟩
        obtain ⟨y, hy⟩ : ∃ y, a.warms[i]? = some y := ⟨_, List.getElem?_eq_getElem hi⟩
        have KE : KitE CW CB CK H' k a := ⟨LW, LB, ws, bs, KT.same sm⟩
        have e1 : a.need x i = Kv342.least y.kills a.limit x.alive := by unfold Kv342.Abs.need; rw [warm_at hy]
        have e2 : a.leaves x i = (a.need x i).map fun s => Kv342.seconds y.fades s x.green := by unfold Kv342.Abs.leaves; rw [warm_at hy]
        have e3 := bestTo_succ a x i
        refine ⟨_, rfl, _, rfl, _, rfl, k, a, b, i, x, y, by rw [Int.zero_add]; rfl, KE, hx, hy, ?_⟩
        rw [← e1]
        cases hl : a.need x i with
        | none =>
          rw [hl] at e2
          rw [e2] at e3
          refine ⟨_, rfl, _, rfl, ite_d (fun _ => ?_) fun hc => absurd rfl hc⟩
          exact ⟨bv, _, _, _, rfl, sm, by rw [e3]; exact hB⟩
        | some n =>
          rw [hl] at e2
          rw [e2] at e3
          have h6 : n ≤ 600 := by have := least_lt (e1 ▸ hl); omega
          refine ⟨_, rfl, _, rfl, ite_d (fun hc => by cases hc) fun _ => ?_⟩
          refine ⟨_, rfl, _, rfl, _, rfl, _, rfl, k, a, b, i, n, x, y, by rw [Int.zero_add]; rfl, h6, KE, hx, hy, ?_⟩
          have new : ∀ p, H' p = none → BestAt H (upd H' p (.lst [V.int (0 + ((i : Nat) : Int)), I n, I (Kv342.seconds y.fades n x.green)])) a x (.ref p) (some i) := fun p hp => by
            refine ⟨p, rfl, sm.free hp, ?_⟩
            rw [upd_same, hl, e2, Int.zero_add]
            rfl
          cases ho : bestTo a x i with
          | none =>
            rw [ho] at hB e3
            obtain rfl : bv = .non := hB
            refine ⟨_, rfl, _, rfl, ite_d (fun _ => iteT ?_) fun hc => absurd rfl hc⟩
            refine ⟨_, rfl, _, rfl, _, rfl, (by show 3 ≤ sizeLine; decide), fun p hp => ?_⟩
            refine ⟨.ref p, _, _, _, rfl, sm.trans (Same.new hp), ?_⟩
            rw [e3]
            exact new p hp
          | some u =>
            rw [ho] at hB e3
            obtain ⟨p0, rfl, n0, l0⟩ := hB
            refine ⟨_, rfl, _, rfl, ite_d (fun hc => by cases hc) fun _ => ?_⟩
            refine ⟨_, rfl, _, rfl, p0, _, _, _, rfl, rfl, SqL.of l0, at_of (j := 2) rfl rfl, _, _, rfl, rfl, _, rfl, ite_d (fun hc => ?_) fun hc => ?_⟩
            · refine ⟨_, rfl, _, rfl, _, rfl, (by show 3 ≤ sizeLine; decide), fun p hp => ?_⟩
              refine ⟨.ref p, _, _, _, rfl, sm.trans (Same.new hp), ?_⟩
              rw [e3]
              dsimp only [Option.map_some]
              rw [if_pos (by omega)]
              exact new p hp
            · refine ⟨.ref p0, _, _, _, rfl, sm, ?_⟩
              rw [e3]
              dsimp only [Option.map_some]
              rw [if_neg (by omega)]
              exact ⟨p0, rfl, n0, l0⟩
      · rintro σ H' ⟨bv, v3, v4, v5, rfl, sm, hB⟩
        cases ho : bestTo a x a.warms.length with
        | none =>
          rw [ho] at hB q
          obtain rfl : bv = .non := hB
          refine ⟨_, rfl, _, rfl, ite_d (fun _ => ?_) fun hc => absurd rfl hc⟩
          exact ⟨one_ok, fun p hp => q.new KT sm hp⟩
        | some u =>
          rw [ho] at hB q
          obtain ⟨p0, rfl, n0, l0⟩ := hB
          refine ⟨_, rfl, _, rfl, ite_d (fun hc => by cases hc) fun _ => ?_⟩
          exact ⟨_, rfl, q.at_ KT sm n0 l0⟩
end
end Bl
end
section
set_option Elab.async false
set_option linter.all false
set_option maxRecDepth 100000
set_option maxHeartbeats 2000000
namespace Bl
open PySem PySem.Spec PyProof.Rows L2
section
variable {P : Program} {w : World} {K : PySem.W.Frag} {mg : Str → Option Value} {base : Heap} {CW CB CK : Addr} {H H' H1 : Hp} {k : Addr} {a a' : Kv342.Abs} {LW LB : Addr} {ws : List Addr} {bs : List (Addr × Addr × Addr)} {σ : L2.St}
/-- the kitchen has changed, the answer is new -/
theorem Post.chg {F : List Addr} {r : Addr} {ans : List Int} {Q : VK} (q : Post CW CB CK H k F a' ans Q) (T : Kit CW CB CK H1 k a' LW LB ws bs) (hf : ∀ b ∈ foot k LW LB ws bs, b ∈ F ∨ H b = none) (kp : ∀ b o, H b = some o → b ∉ F → H1 b = some o)
    (dom : ∀ b o, H b = some o → ∃ u, H1 b = some u) (hr : H1 r = none) : Q (.ref r) (upd H1 r (Ls ans)) := by
  have s2 : Same H1 (upd H1 r (Ls ans)) := Same.new hr
  have h0 : H r = none := by
    cases e : H r with
    | none => rfl
    | some o =>
      obtain ⟨u, hu⟩ := dom r o e
      rw [hr] at hu
      cases hu
  exact q _ r LW LB ws bs (T.same s2) upd_same h0 (fun b o e hb => s2 b o (kp b o e hb)) hf
theorem mem_foot {j : Nat} {p sz rt : Addr} (h : bs[j]? = some (p, sz, rt)) : p ∈ foot k LW LB ws bs := by
  unfold foot
  refine List.mem_cons_of_mem _ (List.mem_cons_of_mem _ (List.mem_cons_of_mem _ (List.mem_append_right _ (List.mem_flatMap.mpr ⟨_, List.mem_of_getElem? h, List.mem_cons_self⟩))))
def sp_is_usable (CB : Addr) : Sp := fun vs H Q _ => ∃ (p sz rt : Addr) (x : Kv342.Batch), vs = [.ref p] ∧ Bat CB H p sz rt x ∧ Q (.bl (decide (x.gone = false ∧ x.waste = 0))) H
theorem sc_is_usable : FnScope ["batch"] ["batch"] (defScope s_is_usable) := ⟨rfl, rfl, rfl, by decide +kernel, rfl, by decide +kernel, by decide +kernel⟩
theorem eqI_cast (a b : Nat) : decide (I a = I b) = decide (a = b) := by
  by_cases h : a = b
  · subst h; simp
  · have : ¬ I a = I b := fun e => h (by injection e with e; exact Int.ofNat.inj e)
    rw [decide_eq_false h, decide_eq_false this]
theorem ok_is_usable (R : Raw K mg "is_usable" s_is_usable ["batch"]) (C : Cl K CW CB CK) : Def P w K mg base 1 "is_usable" ["batch"] (sp_is_usable CB) := by
  refine R.ok sc_is_usable (fun vs H Q E h => ?_) (fun f cdv A outer s H vs Q E hr h => ?_)
  · obtain ⟨p, sz, rt, x, rfl, _⟩ := h
    rfl
  · obtain ⟨p, sz, rt, x, rfl, B, q⟩ := h
    obtain ⟨dx, hp⟩ := B.at_
    refine ⟨_, pss_one (ps_ret (pe_and (pe_not (pe_fld (pv 0) rfl)) (pe_one (pe_cmpR op_eq (pe_fld (pv 0) rfl) pe_int (nomark _))))), ?_⟩
    refine ⟨_, rfl, p, CB, dx, _, _, rfl, hp, C.b, C.gone, rfl, _, rfl, _, rfl, ?_⟩
    cases hg : x.gone with
    | true =>
      refine iteF ?_
      rw [hg] at q
      exact q
    | false =>
      refine iteT ⟨_, rfl, p, CB, dx, _, _, rfl, hp, C.b, C.waste, rfl, rfl, ?_⟩
      have e : decide (I x.waste = V.int 0) = decide (x.waste = 0) := eqI_cast x.waste 0
      show Q (.bl (decide (I x.waste = V.int 0))) H
      rw [e]
      rw [hg] at q
      simpa using q
def sp_heat (CW CB CK : Addr) : Sp := fun vs H Q _ => ∃ (k : Addr) (a : Kv342.Abs) (LW LB : Addr) (ws : List Addr) (bs : List (Addr × Addr × Addr)) (b v s : Nat) (x : Kv342.Batch) (y : Kv342.Warm) (p sz rt : Addr),
  vs = [.ref k, I b, I v, I s] ∧ s ≤ 600 ∧ Kit CW CB CK H k a LW LB ws bs ∧ a.batches[b]? = some x ∧ a.warms[v]? = some y ∧ bs[b]? = some (p, sz, rt) ∧
  ∀ (H' : Hp) (dx : Addr), H' p = some (.ins CB dx (bf (x.heated y s) sz rt)) → (∀ q o, H q = some o → q ≠ p → H' q = some o) → Q .non H'
theorem sc_heat : FnScope ["kitchen", "b", "w", "seconds", "alive", "green", "batch"] ["kitchen", "b", "w", "seconds"] (defScope s_heat) := ⟨rfl, rfl, rfl, by decide +kernel, rfl, by decide +kernel, by decide +kernel⟩
theorem ok_heat (R : Raw K mg "heat" s_heat ["kitchen", "b", "w", "seconds"]) (C : Cl K CW CB CK) (Daa : Def P w K mg base 3 "alive_after" ["kitchen", "b", "w", "seconds"] (sp_alive_after CW CB CK)) (Dga : Def P w K mg base 3 "green_after" ["kitchen", "b", "w", "seconds"] (sp_green_after CW CB CK)) :
    Def P w K mg base 4 "heat" ["kitchen", "b", "w", "seconds"] (sp_heat CW CB CK) := by
  refine R.ok sc_heat (fun vs H Q E h => ?_) (fun f cdv A outer s H vs Q E hr h => ?_)
  · obtain ⟨k, a, LW, LB, ws, bs, b, v, s, x, y, p, sz, rt, rfl, _⟩ := h
    rfl
  · obtain ⟨k, a, LW, LB, ws, bs, b, v, c, x, y, p, sz, rt, rfl, h6, KT, hx, hy, hp, q⟩ := h
    have KE : KitE CW CB CK H k a := ⟨LW, LB, ws, bs, KT⟩
    obtain ⟨p', sz', rt', hp', B⟩ := KT.ba b x hx
    obtain ⟨rfl, rfl, rfl⟩ : p = p' ∧ sz = sz' ∧ rt = rt' := by
      have := Option.some.inj (hp.symm.trans hp')
      injection this with e1 e2
      injection e2 with e2 e3
      exact ⟨e1, e2, e3⟩
    obtain ⟨dx, hpx⟩ := B.at_
    refine ⟨_, pss_cons (ps_set (i := 4) sc_heat.nd rfl (Or.inl rfl) (pe_def Daa hr (pa_cons (pv 0) (pa_cons (pv 1) (pa_cons (pv 2) (pa_cons (pv 3) pa_nil))))))
      (pss_cons (ps_set (i := 5) sc_heat.nd rfl (Or.inl rfl) (pe_def Dga hr (pa_cons (pv 0) (pa_cons (pv 1) (pa_cons (pv 2) (pa_cons (pv 3) pa_nil))))))
      (pss_cons (ps_set (i := 6) sc_heat.nd rfl (Or.inl rfl) (pe_ix ix_list (pe_fld (pv 0) rfl) (pv 1) (fun _ _ => rfl)))
      (pss_cons (ps_fld (pv 6) (pv 4) rfl)
      (pss_one (ps_fld (pv 6) (pv 5) rfl))))), ?_⟩
    refine ⟨_, rfl, _, rfl, _, rfl, _, rfl, k, a, b, v, c, x, y, rfl, h6, KE, hx, hy, ?_⟩
    refine ⟨_, rfl, _, rfl, _, rfl, _, rfl, k, a, b, v, c, x, y, rfl, h6, KE, hx, hy, ?_⟩
    refine rd_bat C KT rfl rfl hp ?_
    refine ⟨_, rfl, _, rfl, p, CB, dx, _, rfl, hpx, C.b, C.alive, (by show 6 < 1000; decide), ?_⟩
    refine ⟨_, rfl, _, rfl, p, CB, dx, _, rfl, upd_same, C.b, C.green, (by show 6 < 1000; decide), ?_⟩
    refine q _ dx (by rw [upd_same]; rfl) fun r o e hr => ?_
    rw [upd_ne hr, upd_ne hr]
    exact e
theorem rd_use {i : Nat} {p sz rt : Addr} {x : Kv342.Batch} {Q : Bool → Hp → Prop} (h1 : σ[i]? = some (some (.ref p))) (B : Bat CB H p sz rt x) (h : Q (decide (x.gone = false ∧ x.waste = 0)) H) :
    tB (tCall (sp_is_usable CB) [] E0 (tCons (tVar i) tNil)) σ H Q := ⟨_, h1, p, sz, rt, x, rfl, B, _, rfl, h⟩
theorem not_use {x : Kv342.Batch} (h : ¬ (x.gone = false ∧ x.waste = 0)) : x.gone = true ∨ x.waste ≠ 0 := by
  cases hg : x.gone with
  | true => exact .inl rfl
  | false => exact .inr fun e => h ⟨hg, e⟩
theorem use_no {x : Kv342.Batch} (h : x.gone = false ∧ x.waste = 0) : ¬ (x.gone = true ∨ x.waste ≠ 0) := by
  rw [h.1, h.2]
  decide
theorem sc_heat_batch : FnScope ["kitchen", "b", "w", "s", "batch"] ["kitchen", "b", "w", "s"] (defScope s_heat_batch) := ⟨rfl, rfl, rfl, by decide +kernel, rfl, by decide +kernel, by decide +kernel⟩
def sp_heat_batch (CW CB CK : Addr) : Sp := fun vs H Q _ => ∃ b v s : Nat, spc CW CB CK [I b, I v, I s] (.heat b v s) vs H Q
theorem ok_heat_batch (R : Raw K mg "heat_batch" s_heat_batch ["kitchen", "b", "w", "s"]) (T : Cst mg) (C : Cl K CW CB CK) (Dhb : Def P w K mg base 1 "has_batch" ["kitchen", "b"] (sp_has_batch CW CB CK)) (Dhw : Def P w K mg base 1 "has_warmth" ["kitchen", "w"] (sp_has_warmth CW CB CK))
    (Dus : Def P w K mg base 1 "is_usable" ["batch"] (sp_is_usable CB)) (Dh : Def P w K mg base 4 "heat" ["kitchen", "b", "w", "seconds"] (sp_heat CW CB CK)) : Def P w K mg base 5 "heat_batch" ["kitchen", "b", "w", "s"] (sp_heat_batch CW CB CK) := by
  refine R.ok sc_heat_batch (fun vs H Q E h => ?_) (fun f cdv A outer s H vs Q E hr h => ?_)
  · obtain ⟨b, v, s, k, a, LW, LB, ws, bs, rfl, _⟩ := h
    rfl
  · obtain ⟨b, v, c, k, a, LW, LB, ws, bs, rfl, KT, q⟩ := h
    have hr1 : Room 1 _ := hr.mono (by decide)
    refine ⟨_, pss_cons (ps_if (PW.pt (pw_or (pt_not (pt_val (pe_def Dhb hr1 (pa_cons (pv 0) (pa_cons (pv 1) pa_nil))))) (pw_or1 (pt_not (pt_val (pe_def Dhw hr1 (pa_cons (pv 0) (pa_cons (pv 2) pa_nil)))))))) (pss_one (ps_ret (pe_lst (pa_cons (pe_cst T.NO_SUCH) pa_nil)))) pss_nil)
      (pss_cons (ps_if (PW.pt (pw_or (pt_cmpR op_lt (pv 3) pe_int (nomark _)) (pw_or1 (pt_cmpR op_gt (pv 3) (pe_cst T.LONGEST) (nomark _))))) (pss_one (ps_ret (pe_lst (pa_cons (pe_cst T.OUT_OF_RANGE) pa_nil)))) pss_nil)
      (pss_cons (ps_set (i := 4) sc_heat_batch.nd rfl (Or.inl rfl) (pe_ix ix_list (pe_fld (pv 0) rfl) (pv 1) (fun _ _ => rfl)))
      (pss_cons (ps_if (pt_not (pt_val (pe_def Dus hr1 (pa_cons (pv 4) pa_nil)))) (pss_one (ps_ret (pe_lst (pa_cons (pe_cst T.GONE_OR_UNWASHED) pa_nil)))) pss_nil)
      (pss_cons (ps_expr (pe_def Dh hr (pa_cons (pv 0) (pa_cons (pv 1) (pa_cons (pv 2) (pa_cons (pv 3) pa_nil))))))
      (pss_one (ps_ret (pe_lst (pa_cons (pe_fld (pv 4) rfl) (pa_cons (pe_fld (pv 4) rfl) pa_nil))))))))), ?_⟩
    refine rd_bw KT rfl rfl rfl (fun hn => iteT ?_) fun hb hv => iteF ?_
    · refine ⟨one_ok, fun p hp => ?_⟩
      have e : a.does (.heat b v c) = (a, Kv342.say (-2)) := if_pos hn
      rw [e] at q
      exact q.new KT (Same.refl H) hp
    · have e0 : a.does (.heat b v c) = (if c = 0 ∨ 600 < c then (a, Kv342.say (-22)) else if (a.batch b).gone ∨ (a.batch b).waste ≠ 0 then (a, Kv342.say (-16)) else (a.set_ b (fun x => x.heated (a.warm v) c), ⟨(((a.batch b).heated (a.warm v) c).alive : Nat), [((a.batch b).heated (a.warm v) c).green]⟩)) := if_neg (bw_no hb hv)
      have bad : (c = 0 ∨ 600 < c) → ∀ p, H p = none → Q (.ref p) (upd H p (.lst [V.int (-22)])) := fun hc p hp => by
        rw [e0, if_pos hc] at q
        exact q.new KT (Same.refl H) hp
      refine ⟨_, rfl, _, _, rfl, rfl, _, rfl, ite_d (fun hc => iteT ⟨one_ok, bad (.inl (by omega))⟩) fun hc => ?_⟩
      refine ⟨_, rfl, _, _, rfl, rfl, _, rfl, ite_d (fun hc2 => ⟨one_ok, bad (.inr (by omega))⟩) fun hc2 => ?_⟩
      obtain ⟨x, hx⟩ : ∃ x, a.batches[b]? = some x := ⟨_, List.getElem?_eq_getElem hb⟩
      obtain ⟨y, hy⟩ : ∃ y, a.warms[v]? = some y := ⟨_, List.getElem?_eq_getElem hv⟩
      obtain ⟨p, sz, rt, hp, B⟩ := KT.ba b x hx
      obtain ⟨dx, hpx⟩ := B.at_
      rw [e0, if_neg (by omega), batch_at hx, warm_at hy] at q
      refine rd_bat C KT rfl rfl hp ?_
      refine rd_use rfl B (ite_nd (fun hu => ?_) fun hu => ?_)
      · refine ⟨one_ok, fun r hr' => ?_⟩
        rw [if_pos (not_use hu)] at q
        exact q.new KT (Same.refl H) hr'
      · rw [if_neg (use_no hu)] at q
        refine ⟨_, rfl, _, rfl, _, rfl, _, rfl, k, a, LW, LB, ws, bs, b, v, c, x, y, p, sz, rt, rfl, by omega, KT, hx, hy, hp, fun H1 dy h1 h2 => ?_⟩
        refine ⟨_, rfl, p, CB, dy, _, _, rfl, h1, C.b, C.alive, rfl, _, rfl, p, CB, dy, _, _, rfl, h1, C.b, C.green, rfl, (by show 2 ≤ sizeLine; decide), fun r hr' => ?_⟩
        refine q.chg (KT.setB (f := fun x => x.heated y c) hx hp rfl rfl h1 h2) (fun u hu => .inl hu) (fun u o e hu => h2 u o e fun eq => hu (by rw [eq]; exact mem_foot hp)) (fun u o e => ?_) hr'
        by_cases eq : u = p
        · exact ⟨_, by rw [eq]; exact h1⟩
        · exact ⟨o, h2 u o e eq⟩
theorem sc_heat_enough : FnScope ["kitchen", "b", "w", "batch", "seconds"] ["kitchen", "b", "w"] (defScope s_heat_enough) := ⟨rfl, rfl, rfl, by decide +kernel, rfl, by decide +kernel, by decide +kernel⟩
def sp_heat_enough (CW CB CK : Addr) : Sp := fun vs H Q _ => ∃ b v : Nat, spc CW CB CK [I b, I v] (.enough b v) vs H Q
theorem ok_heat_enough (R : Raw K mg "heat_enough" s_heat_enough ["kitchen", "b", "w"]) (T : Cst mg) (C : Cl K CW CB CK) (Dhb : Def P w K mg base 1 "has_batch" ["kitchen", "b"] (sp_has_batch CW CB CK)) (Dhw : Def P w K mg base 1 "has_warmth" ["kitchen", "w"] (sp_has_warmth CW CB CK))
    (Dus : Def P w K mg base 1 "is_usable" ["batch"] (sp_is_usable CB)) (Dsn : Def P w K mg base 3 "seconds_needed" ["kitchen", "b", "w"] (sp_seconds_needed CW CB CK)) (Dh : Def P w K mg base 4 "heat" ["kitchen", "b", "w", "seconds"] (sp_heat CW CB CK)) : Def P w K mg base 5 "heat_enough" ["kitchen", "b", "w"] (sp_heat_enough CW CB CK) := by
  refine R.ok sc_heat_enough (fun vs H Q E h => ?_) (fun f cdv A outer s H vs Q E hr h => ?_)
  · obtain ⟨b, v, k, a, LW, LB, ws, bs, rfl, _⟩ := h
    rfl
  · obtain ⟨b, v, k, a, LW, LB, ws, bs, rfl, KT, q⟩ := h
    have hr1 : Room 1 _ := hr.mono (by decide)
    have hr3 : Room 3 _ := hr.mono (by decide)
    refine ⟨_, pss_cons (ps_if (PW.pt (pw_or (pt_not (pt_val (pe_def Dhb hr1 (pa_cons (pv 0) (pa_cons (pv 1) pa_nil))))) (pw_or1 (pt_not (pt_val (pe_def Dhw hr1 (pa_cons (pv 0) (pa_cons (pv 2) pa_nil)))))))) (pss_one (ps_ret (pe_lst (pa_cons (pe_cst T.NO_SUCH) pa_nil)))) pss_nil)
      (pss_cons (ps_set (i := 3) sc_heat_enough.nd rfl (Or.inl rfl) (pe_ix ix_list (pe_fld (pv 0) rfl) (pv 1) (fun _ _ => rfl)))
      (pss_cons (ps_if (pt_not (pt_val (pe_def Dus hr1 (pa_cons (pv 3) pa_nil)))) (pss_one (ps_ret (pe_lst (pa_cons (pe_cst T.GONE_OR_UNWASHED) pa_nil)))) pss_nil)
      (pss_cons (ps_set (i := 4) sc_heat_enough.nd rfl (Or.inl rfl) (pe_def Dsn hr3 (pa_cons (pv 0) (pa_cons (pv 1) (pa_cons (pv 2) pa_nil)))))
      (pss_cons (ps_if (pt_cmp (pc_isN (pv 4))) (pss_one (ps_ret (pe_lst (pa_cons (pe_cst T.NOT_SO) pa_nil)))) pss_nil)
      (pss_cons (ps_expr (pe_def Dh hr (pa_cons (pv 0) (pa_cons (pv 1) (pa_cons (pv 2) (pa_cons (pv 4) pa_nil))))))
      (pss_one (ps_ret (pe_lst (pa_cons (pv 4) (pa_cons (pe_fld (pv 3) rfl) pa_nil)))))))))), ?_⟩
    refine rd_bw KT rfl rfl rfl (fun hn => iteT ?_) fun hb hv => iteF ?_
    · refine ⟨one_ok, fun p hp => ?_⟩
      have e : a.does (.enough b v) = (a, Kv342.say (-2)) := if_pos hn
      rw [e] at q
      exact q.new KT (Same.refl H) hp
    · have e0 : a.does (.enough b v) = (if (a.batch b).gone ∨ (a.batch b).waste ≠ 0 then (a, Kv342.say (-16)) else match a.need (a.batch b) v with
        | none => (a, Kv342.say (-33))
        | some s => (a.set_ b (fun x => x.heated (a.warm v) s), ⟨(s : Nat), [((a.batch b).heated (a.warm v) s).green]⟩)) := by
        show (if a.has b = false ∨ a.hasW v = false then _ else _) = _
        rw [if_neg (bw_no hb hv)]
        rfl
      obtain ⟨x, hx⟩ : ∃ x, a.batches[b]? = some x := ⟨_, List.getElem?_eq_getElem hb⟩
      obtain ⟨y, hy⟩ : ∃ y, a.warms[v]? = some y := ⟨_, List.getElem?_eq_getElem hv⟩
      obtain ⟨p, sz, rt, hp, B⟩ := KT.ba b x hx
      obtain ⟨dx, hpx⟩ := B.at_
      have en : a.need x v = Kv342.least y.kills a.limit x.alive := by unfold Kv342.Abs.need; rw [warm_at hy]
      rw [e0, batch_at hx, warm_at hy, en] at q
      refine rd_bat C KT rfl rfl hp ?_
      refine rd_use rfl B (ite_nd (fun hu => ?_) fun hu => ?_)
      · refine ⟨one_ok, fun r hr' => ?_⟩
        rw [if_pos (not_use hu)] at q
        exact q.new KT (Same.refl H) hr'
      · rw [if_neg (use_no hu)] at q
        refine ⟨_, rfl, _, rfl, _, rfl, k, a, b, v, x, y, rfl, ⟨LW, LB, ws, bs, KT⟩, hx, hy, ?_⟩
        cases hl : Kv342.least y.kills a.limit x.alive with
        | none =>
          rw [hl] at q
          refine ⟨_, rfl, _, rfl, ite_d (fun _ => ?_) fun hc => absurd rfl hc⟩
          exact ⟨one_ok, fun p hp => q.new KT (Same.refl H) hp⟩
        | some c =>
          rw [hl] at q
          refine ⟨_, rfl, _, rfl, ite_d (fun hc => by cases hc) fun _ => ?_⟩
          refine ⟨_, rfl, _, rfl, _, rfl, _, rfl, k, a, LW, LB, ws, bs, b, v, c, x, y, p, sz, rt, rfl, by have := least_lt hl; omega, KT, hx, hy, hp, fun H1 dy h1 h2 => ?_⟩
          refine ⟨_, rfl, _, rfl, p, CB, dy, _, _, rfl, h1, C.b, C.green, rfl, (by show 2 ≤ sizeLine; decide), fun r hr' => ?_⟩
          refine q.chg (KT.setB (f := fun x => x.heated y c) hx hp rfl rfl h1 h2) (fun u hu => .inl hu) (fun u o e hu => h2 u o e fun eq => hu (by rw [eq]; exact mem_foot hp)) (fun u o e => ?_) hr'
          by_cases eq : u = p
          · exact ⟨_, by rw [eq]; exact h1⟩
          · exact ⟨o, h2 u o e eq⟩
end
end Bl
end
section
set_option Elab.async false
set_option linter.all false
set_option maxRecDepth 100000
set_option maxHeartbeats 2000000
namespace Bl
open PySem PySem.Spec PyProof.Rows L2
/-- a class of the text that is made -/
structure Ini (P : Program) (w : World) (K : PySem.W.Frag) (mg : Str → Option Value) (base : Heap) (k : Nat) (x : Str) (C : Addr) (ps : List Str) (sp : Sp) : Prop where
  ex : ∃ (f : Addr) (fd : FuncData), mg x = some (.ref C) ∧ Mk K C f ∧ Binds K fd ps [] ∧ FnOk P w K mg base CX0 k f fd ps sp
structure RawI (K : PySem.W.Frag) (mg : Str → Option Value) (x qual : Str) (C : Addr) (st : Stmt) (ps : List Str) : Prop where
  ex : ∃ (f : Addr) (fd : FuncData), mg x = some (.ref C) ∧ Mk K C f ∧ Fun K "__init__" qual st f fd ∧ Binds K fd ps []
section
variable {P : Program} {w : World} {K : PySem.W.Frag} {mg : Str → Option Value} {base : Heap}
theorem RawI.ok {x qual : Str} {C : Addr} {st : Stmt} {ps N : List Str} {k : Nat} {sp : Sp} (R : RawI K mg x qual C st ps) (S : FnScope N ps (defScope st)) (len : ∀ vs H Q E, sp vs H Q E → vs.length = ps.length)
    (hbody : ∀ (f : Addr) (cdv : Value) (A : Around) (outer : List Env) (s : Shared) (H : Hp) (vs : List V) (Q : VK) (E : XK), Room k (A.deeper (envOfC qual (defScope st) s.heap.objs.size f cdv)) → sp vs H Q E →
      ∃ t, PSs (cxOf CX0 P w K mg base N qual (defScope st) f cdv A outer s H E).nox (defBody st) t ∧ t { nx := fun _ H' => Q .non H', rt := Q } (L2.start N vs) H) : Ini P w K mg base (k + 1) x C ps sp := by
  obtain ⟨f, fd, h1, h2, F, B⟩ := R.ex
  exact ⟨f, fd, h1, h2, B, F.ok S len fun cdv A outer s H vs Q E hr h => hbody f cdv A outer s H vs Q E hr h⟩
end
section
variable {X : Cx} {k : Nat} {ps : List Str} {sp : Sp} {x : Str} {C : Addr} {p pos : Pos} {e : Expr} {es : List Expr} {t : TA}
theorem pe_new (D : Ini X.prog X.w X.K X.mg X.base k x C ps sp) (hr : Room (k + 1) X.A) (ha : PA X (e :: es) t) (hg : Gl X x := by rfl) (hx : Passes CX0 X E0 := by exact pass0) (hdb : (x == ("__debug__" : Str)) = false := by decide)
    (he : starEach (e :: es) X.env = (false, eval e X.env) :: starEach es X.env := by rfl) (hpl : (backTo pos (starEach es X.env)).any (·.1) = false := by rfl) : PE X (.Call (.Name x p) (e :: es) [] pos) (tMake C sp [] E0 t) := by
  obtain ⟨f, fd, h1, h2, h3, h4⟩ := D.ex
  exact pe_make h2 h4 hr hg h1 h3 .nil hx ha hdb he hpl
theorem pe_new0 (D : Ini X.prog X.w X.K X.mg X.base k x C ps sp) (hr : Room (k + 1) X.A) (hg : Gl X x := by rfl) (hx : Passes CX0 X E0 := by exact pass0) (hdb : (x == ("__debug__" : Str)) = false := by decide) : PE X (.Call (.Name x p) [] [] pos) (tMake C sp [] E0 tNil) := by
  obtain ⟨f, fd, h1, h2, h3, h4⟩ := D.ex
  exact pe_make0 h2 h4 hr hg h1 h3 .nil hx hdb
end
/-- a method of the text -/
structure MDef (P : Program) (w : World) (K : PySem.W.Frag) (mg : Str → Option Value) (base : Heap) (k : Nat) (C : Addr) (m : Str) (ps : List Str) (sp : Sp) : Prop where
  ex : ∃ (f : Addr) (fd : FuncData), Meth K C m f ∧ Binds K fd ps [] ∧ FnOk P w K mg base CX0 k f fd ps sp
structure RawM (K : PySem.W.Frag) (C : Addr) (m qual : Str) (st : Stmt) (ps : List Str) : Prop where
  ex : ∃ (f : Addr) (fd : FuncData), Meth K C m f ∧ Fun K m qual st f fd ∧ Binds K fd ps []
section
variable {P : Program} {w : World} {K : PySem.W.Frag} {mg : Str → Option Value} {base : Heap}
theorem RawM.ok {m qual : Str} {C : Addr} {st : Stmt} {ps N : List Str} {k : Nat} {sp : Sp} (R : RawM K C m qual st ps) (S : FnScope N ps (defScope st)) (len : ∀ vs H Q E, sp vs H Q E → vs.length = ps.length)
    (hbody : ∀ (f : Addr) (cdv : Value) (A : Around) (outer : List Env) (s : Shared) (H : Hp) (vs : List V) (Q : VK) (E : XK), Room k (A.deeper (envOfC qual (defScope st) s.heap.objs.size f cdv)) → sp vs H Q E →
      ∃ t, PSs (cxOf CX0 P w K mg base N qual (defScope st) f cdv A outer s H E).nox (defBody st) t ∧ t { nx := fun _ H' => Q .non H', rt := Q } (L2.start N vs) H) : MDef P w K mg base (k + 1) C m ps sp := by
  obtain ⟨f, fd, h2, F, B⟩ := R.ex
  exact ⟨f, fd, h2, B, F.ok S len fun cdv A outer s H vs Q E hr h => hbody f cdv A outer s H vs Q E hr h⟩
end
section
variable {X : Cx} {k : Nat} {ps : List Str} {sp : Sp} {m : Str} {C : Addr} {apos pos : Pos} {o e : Expr} {es : List Expr} {ta : TE} {t : TA}
theorem pe_mdef {pl : Sem Bool} (D : MDef X.prog X.w X.K X.mg X.base k C m ps sp) (c : Cls X.K C) (hr : Room k X.A) (ho : PE X o ta) (ha : PA X (e :: es) t) (hx : Passes CX0 X E0 := by exact pass0)
    (hst : starEach (e :: es) X.env = (false, eval e X.env) :: starEach es X.env := by rfl) (hpl : (backTo pos (starEach es X.env)).any (·.1) = false := by rfl)
    (ht : eval (.Call (.Attribute o m apos) (e :: es) [] pos) X.env = (do
      let ov ← eval o X.env
      standAt apos.atName
      let (f, first) ← holding [ov] (getMethod ov m pl)
      callWith pos f first (backTo pos (starEach (e :: es) X.env)) (backToKw pos (keywordEach [] X.env))) := by rfl) :
    PE X (.Call (.Attribute o m apos) (e :: es) [] pos) (tMeth C m sp [] E0 ta t) := by
  obtain ⟨f, fd, h2, h3, h4⟩ := D.ex
  exact pe_meth ho c h2 h4 hr h3 .nil hx ha hst hpl ht
end
section
variable {P : Program} {w : World} {K : PySem.W.Frag} {mg : Str → Option Value} {base : Heap} {CW CB CK : Addr} {H H' H1 : Hp} {k : Addr} {a a' : Kv342.Abs} {LW LB : Addr} {ws : List Addr} {bs : List (Addr × Addr × Addr)} {σ : L2.St}
def sp_Batch (CB : Addr) : Sp := fun vs H Q _ => ∃ (p dx sz rt : Addr) (x : Kv342.Batch), vs = [.ref p, I x.waste, .ref sz, I x.alive, I x.green, .ref rt] ∧ x.gone = false ∧ H p = some (.ins CB dx []) ∧ Q .non (upd H p (.ins CB dx (bf x sz rt)))
theorem sc_Batch : FnScope ["self", "waste", "sizes", "alive", "green", "roots"] ["self", "waste", "sizes", "alive", "green", "roots"] (defScope s_Batch) := ⟨rfl, rfl, rfl, by decide +kernel, rfl, by decide +kernel, by decide +kernel⟩
theorem ok_Batch (R : RawI K mg "Batch" "Batch.__init__" CB s_Batch ["self", "waste", "sizes", "alive", "green", "roots"]) (C : Cl K CW CB CK) : Ini P w K mg base 1 "Batch" CB ["self", "waste", "sizes", "alive", "green", "roots"] (sp_Batch CB) := by
  refine R.ok sc_Batch (fun vs H Q E h => ?_) (fun f cdv A outer s H vs Q E hr h => ?_)
  · obtain ⟨p, dx, sz, rt, x, rfl, _⟩ := h
    rfl
  · obtain ⟨p, dx, sz, rt, x, rfl, hg, hp, q⟩ := h
    refine ⟨_, pss_cons (ps_fld (pv 0) (pv 1) rfl) (pss_cons (ps_fld (pv 0) (pv 2) rfl) (pss_cons (ps_fld (pv 0) (pv 3) rfl) (pss_cons (ps_fld (pv 0) (pv 4) rfl) (pss_cons (ps_fld (pv 0) (pv 5) rfl) (pss_one (ps_fld (pv 0) pe_bl rfl)))))), ?_⟩
    refine ⟨_, rfl, _, rfl, p, CB, dx, _, rfl, hp, C.b, C.waste, (by show 0 < 1000; decide), ?_⟩
    refine ⟨_, rfl, _, rfl, p, CB, dx, _, rfl, upd_same, C.b, C.sizes, (by show 1 < 1000; decide), ?_⟩
    refine ⟨_, rfl, _, rfl, p, CB, dx, _, rfl, upd_same, C.b, C.alive, (by show 2 < 1000; decide), ?_⟩
    refine ⟨_, rfl, _, rfl, p, CB, dx, _, rfl, upd_same, C.b, C.green, (by show 3 < 1000; decide), ?_⟩
    refine ⟨_, rfl, _, rfl, p, CB, dx, _, rfl, upd_same, C.b, C.roots, (by show 4 < 1000; decide), ?_⟩
    refine ⟨_, rfl, p, CB, dx, _, rfl, upd_same, C.b, C.gone, (by show 5 < 1000; decide), ?_⟩
    rw [upd_upd, upd_upd, upd_upd, upd_upd, upd_upd]
    have e : bf x sz rt = bf { x with gone := false } sz rt := by unfold bf; rw [hg]
    rw [e] at q
    exact q
/-- behind a class's making -/
theorem made_same {x dx C : Addr} {fs : List (Str × V)} (nx : H x = none) (nd : H dx = none) : Same H (upd (upd (upd H dx (.own x)) x (.ins C dx [])) x (.ins C dx fs)) := fun b o e => by
  rw [upd_upd, upd_ne (ne_of_none e nx), upd_ne (ne_of_none e nd)]
  exact e
def sp_part_of (CB : Addr) : Sp := fun vs H Q _ => ∃ (p sz rt sz' : Addr) (x : Kv342.Batch) (l : List Nat), vs = [.ref p, .ref sz'] ∧ Bat CB H p sz rt x ∧ H sz' = some (.lst (l.map I)) ∧
  ∀ (H' : Hp) (p' rt' : Addr), Same H H' → H p' = none → H rt' = none → Bat CB H' p' sz' rt' { x with sizes := l, waste := 0, gone := false } → Q (.ref p') H'
theorem sc_part_of : FnScope ["batch", "sizes"] ["batch", "sizes"] (defScope s_part_of) := ⟨rfl, rfl, rfl, by decide +kernel, rfl, by decide +kernel, by decide +kernel⟩
theorem ok_part_of (R : Raw K mg "part_of" s_part_of ["batch", "sizes"]) (T : Cst mg) (C : Cl K CW CB CK) (DB : Ini P w K mg base 1 "Batch" CB ["self", "waste", "sizes", "alive", "green", "roots"] (sp_Batch CB)) : Def P w K mg base 3 "part_of" ["batch", "sizes"] (sp_part_of CB) := by
  refine R.ok sc_part_of (fun vs H Q E h => ?_) (fun f cdv A outer s H vs Q E hr h => ?_)
  · obtain ⟨p, sz, rt, sz', x, l, rfl, _⟩ := h
    rfl
  · obtain ⟨p, sz, rt, sz', x, l, rfl, B, hl, q⟩ := h
    obtain ⟨dx, hp⟩ := B.at_
    refine ⟨_, pss_one (ps_ret (pe_new DB hr (pa_cons pe_int (pa_cons (pv 1) (pa_cons (pe_fld (pv 0) rfl) (pa_cons (pe_fld (pv 0) rfl) (pa_cons (pe_callTy call_list_of (by rfl) T.list PyProof.Rows.boot_list (pa_cons (pe_fld (pv 0) rfl) pa_nil)) pa_nil))))))), ?_⟩
    refine ⟨_, rfl, _, rfl, p, CB, dx, _, _, rfl, hp, C.b, C.alive, rfl, _, rfl, p, CB, dx, _, _, rfl, hp, C.b, C.green, rfl, _, rfl, p, CB, dx, _, _, rfl, hp, C.b, C.roots, rfl, rt, _, rfl, .inl (SqL.of B.rt), fun r hr' => ?_⟩
    intro y dy ny ndy ney
    have s1 : Same H (upd H r (.lst ((rootsOf x.roots).map I))) := Same.new hr'
    have s2 := made_same (C := CB) (fs := bf { x with sizes := l, waste := 0, gone := false } sz' r) ny ndy
    refine ⟨y, dy, sz', r, { x with sizes := l, waste := 0, gone := false }, rfl, rfl, upd_same, rfl, ?_⟩
    refine q _ y r (s1.trans s2) (s1.free ny) hr' ⟨⟨dy, upd_same⟩, s2 _ _ (s1 _ _ hl), s2 _ _ upd_same⟩
theorem cut_to {l : List Nat} {m : Nat} : cutV (l.map I) none (some ((m : Nat) : Int)) = (l.take m).map I := by
  unfold cutV
  rw [HT.sIx_none, HT.sIx_nat, List.drop_zero, Nat.sub_zero, List.map_take, List.length_map]
  by_cases h : m ≤ l.length
  · rw [Nat.min_eq_left h]
  · rw [Nat.min_eq_right (by omega), List.take_of_length_le (by simp), List.take_of_length_le (by simp; omega)]
theorem cut_from {l : List Nat} {m : Nat} : cutV (l.map I) (some ((m : Nat) : Int)) none = (l.drop m).map I := by
  unfold cutV
  rw [HT.sIx_none, HT.sIx_nat, List.map_drop, List.length_map]
  rw [List.take_of_length_le (by simp)]
  by_cases h : m ≤ l.length
  · rw [Nat.min_eq_left h]
  · rw [Nat.min_eq_right (by omega), List.drop_of_length_le (by simp), List.drop_of_length_le (by simp; omega)]
theorem rep_zero (n : Nat) : (List.replicate n [V.int 0]).flatten = (List.replicate n 0).map I := by
  induction n with
  | zero => rfl
  | succ n ih => rw [List.replicate_succ, List.replicate_succ, List.flatten_cons, List.map_cons, ih]; rfl
end
end Bl
end
section
set_option Elab.async false
set_option linter.all false
set_option maxRecDepth 100000
set_option maxHeartbeats 2000000
namespace Bl
open PySem PySem.Spec PyProof.Rows L2
section
variable {P : Program} {w : World} {K : PySem.W.Frag} {mg : Str → Option Value} {base : Heap} {CW CB CK : Addr} {H H' H1 : Hp} {k : Addr} {a a' : Kv342.Abs} {LW LB : Addr} {ws : List Addr} {bs : List (Addr × Addr × Addr)} {σ : L2.St}
theorem Kit.fresh (T : Kit CW CB CK H k a LW LB ws bs) {p : Addr} (h : H p = none) : ∀ (j : Nat) (q : Addr × Addr × Addr), bs[j]? = some q → q.1 ≠ p := fun j q e => by
  have hj : j < a.batches.length := by rw [← T.bl]; exact (List.getElem?_eq_some_iff.mp e).1
  obtain ⟨p', sz, rt, h1, B⟩ := T.ba j _ (List.getElem?_eq_getElem hj)
  obtain rfl := Option.some.inj (e.symm.trans h1)
  obtain ⟨dx, h2⟩ := B.at_
  exact ne_of_none h2 h
theorem foot_LB : LB ∈ foot k LW LB ws bs := List.mem_cons_of_mem _ (List.mem_cons_of_mem _ List.mem_cons_self)
theorem foot_k : k ∈ foot k LW LB ws bs := List.mem_cons_self
theorem foot_add {p sz rt q : Addr} (h : q ∈ foot k LW LB ws (bs ++ [(p, sz, rt)])) : q ∈ foot k LW LB ws bs ∨ q = p ∨ q = sz ∨ q = rt := by
  unfold foot at h ⊢
  rw [List.flatMap_append] at h
  simp only [List.mem_cons, List.mem_append, List.flatMap_cons, List.flatMap_nil, List.append_nil] at h ⊢
  rcases h with h | h | h | h | h | h
  · exact .inl (.inl h)
  · exact .inl (.inr (.inl h))
  · exact .inl (.inr (.inr (.inl h)))
  · exact .inl (.inr (.inr (.inr (.inl h))))
  · exact .inl (.inr (.inr (.inr (.inr h))))
  · rcases h with h | h | h | h
    · exact .inr (.inl h)
    · exact .inr (.inr (.inl h))
    · exact .inr (.inr (.inr h))
    · cases h
/-- sizes[:m] + [0] * (5 - m), made and handed on -/
theorem rd_under {X : Cx} {i j m : Nat} {p sz rt dx : Addr} {x : Kv342.Batch} {Q : VK} (C : Cl X.K CW CB CK) (h1 : σ[i]? = some (some (.ref p))) (h2 : σ[j]? = some (some (I m))) (hp : H p = some (.ins CB dx (bf x sz rt))) (hs : H sz = some (.lst (x.sizes.map I))) (h5 : x.sizes.length = 5) (hm1 : 1 ≤ m) (hm2 : m ≤ 4)
    (q : ∀ (H' : Hp) (r : Addr), Same H H' → H r = none → H' r = some (.lst ((Kv342.under x.sizes m).map I)) → Q (.ref r) H') :
    tOp rCat (tSl (rSlL X.K) (tFld X.K (tVar i) "sizes") tNoPart (tPart (tVar j))) (tOp rRep (tLst (tCons (tC (.int 0)) tNil)) (tOp (rI0 fun i j => .int (i - j)) (tC (.int 5)) (tVar j))) σ H Q := by
  refine ⟨_, h1, p, CB, dx, _, _, rfl, hp, C.b, C.sizes, rfl, _, h2, _, rfl, sz, _, rfl, SqL.of hs, fun r1 n1 => ?_⟩
  refine ⟨(by show 1 ≤ sizeLine; decide), fun r2 n2 => ?_⟩
  refine ⟨_, h2, _, _, rfl, rfl, r2, _, _, rfl, rfl, upd_same, by omega, by omega, ?_, fun r3 n3 => ?_⟩
  · show 1 * (5 - ((m : Nat) : Int)).toNat ≤ sizeLine
    rw [sizeLine_eq]
    omega
  · have s1 := Same.new (o := .lst (cutV (x.sizes.map I) none (some ((m : Nat) : Int)))) n1
    have s2 := Same.new (o := .lst [V.int 0]) n2
    have s3 := Same.new (o := .lst (List.replicate (5 - ((m : Nat) : Int)).toNat [V.int 0]).flatten) n3
    have e1 : (5 - ((m : Nat) : Int)).toNat = 5 - m := by omega
    refine ⟨r1, r3, _, _, rfl, rfl, s3 _ _ (s2 _ _ upd_same), upd_same, ?_, fun r4 n4 => ?_⟩
    · rw [e1, rep_zero, cut_to, List.length_map, List.length_map, List.length_take, List.length_replicate, sizeLine_eq]
      omega
    · refine q _ r4 ((s1.trans s2).trans (s3.trans (Same.new n4))) (((s1.trans s2).trans s3).free n4) ?_
      rw [upd_same, e1, rep_zero, cut_to, under_eq h5 hm1 hm2, List.map_append]
theorem rd_over {X : Cx} {i j m : Nat} {p sz rt dx : Addr} {x : Kv342.Batch} {Q : VK} (C : Cl X.K CW CB CK) (h1 : σ[i]? = some (some (.ref p))) (h2 : σ[j]? = some (some (I m))) (hp : H p = some (.ins CB dx (bf x sz rt))) (hs : H sz = some (.lst (x.sizes.map I))) (h5 : x.sizes.length = 5) (hm1 : 1 ≤ m) (hm2 : m ≤ 4)
    (q : ∀ (H' : Hp) (r : Addr), Same H H' → H r = none → H' r = some (.lst ((Kv342.over x.sizes m).map I)) → Q (.ref r) H') :
    tOp rCat (tOp rRep (tLst (tCons (tC (.int 0)) tNil)) (tVar j)) (tSl (rSlL X.K) (tFld X.K (tVar i) "sizes") (tPart (tVar j)) tNoPart) σ H Q := by
  refine ⟨(by show 1 ≤ sizeLine; decide), fun r2 n2 => ?_⟩
  refine ⟨_, h2, r2, _, _, rfl, rfl, upd_same, by omega, by omega, ?_, fun r3 n3 => ?_⟩
  · show 1 * (((m : Nat) : Int)).toNat ≤ sizeLine
    rw [sizeLine_eq]
    omega
  · have s2 := Same.new (o := .lst [V.int 0]) n2
    have s3 := Same.new (o := .lst (List.replicate (((m : Nat) : Int)).toNat [V.int 0]).flatten) n3
    refine ⟨_, h1, p, CB, dx, _, _, rfl, s3 _ _ (s2 _ _ hp), C.b, C.sizes, rfl, _, h2, _, rfl, sz, _, rfl, SqL.of (s3 _ _ (s2 _ _ hs)), fun r1 n1 => ?_⟩
    have s1 := Same.new (o := .lst (cutV (x.sizes.map I) (some ((m : Nat) : Int)) none)) n1
    refine ⟨r3, r1, _, _, rfl, rfl, s1 _ _ upd_same, upd_same, ?_, fun r4 n4 => ?_⟩
    · rw [Int.toNat_natCast, rep_zero, cut_from, List.length_map, List.length_map, List.length_drop, List.length_replicate, sizeLine_eq]
      omega
    · refine q _ r4 ((s2.trans s3).trans (s1.trans (Same.new n4))) (((s2.trans s3).trans s1).free n4) ?_
      rw [upd_same, Int.toNat_natCast, rep_zero, cut_from, over_eq h5 hm1 hm2, List.map_append]
theorem part_eq {x : Kv342.Batch} {l : List Nat} (h : x.gone = false ∧ x.waste = 0) : ({ x with sizes := l, waste := 0, gone := false } : Kv342.Batch) = { x with sizes := l } := by
  obtain ⟨a, b⟩ := h
  cases x
  simp only at a b
  subst a b
  rfl
theorem sc_sieve_batch : FnScope ["kitchen", "b", "m", "batch", "through", "stays"] ["kitchen", "b", "m"] (defScope s_sieve_batch) := ⟨rfl, rfl, rfl, by decide +kernel, rfl, by decide +kernel, by decide +kernel⟩
def sp_sieve_batch (CW CB CK : Addr) : Sp := fun vs H Q _ => ∃ b m : Nat, spc CW CB CK [I b, I m] (.sieve b m) vs H Q
theorem ok_sieve_batch (R : Raw K mg "sieve_batch" s_sieve_batch ["kitchen", "b", "m"]) (T : Cst mg) (C : Cl K CW CB CK) (Dhb : Def P w K mg base 1 "has_batch" ["kitchen", "b"] (sp_has_batch CW CB CK))
    (Dus : Def P w K mg base 1 "is_usable" ["batch"] (sp_is_usable CB)) (Dkg : Def P w K mg base 1 "kilograms" ["batch"] (sp_kilograms CB)) (Dme : Def P w K mg base 1 "is_mesh" ["m"] sp_is_mesh) (Dpo : Def P w K mg base 3 "part_of" ["batch", "sizes"] (sp_part_of CB)) : Def P w K mg base 4 "sieve_batch" ["kitchen", "b", "m"] (sp_sieve_batch CW CB CK) := by
  refine R.ok sc_sieve_batch (fun vs H Q E h => ?_) (fun f cdv A outer s H vs Q E hr h => ?_)
  · obtain ⟨b, m, k, a, LW, LB, ws, bs, rfl, _⟩ := h
    rfl
  · obtain ⟨b, m, k, a, LW, LB, ws, bs, rfl, KT, q⟩ := h
    have hr1 : Room 1 _ := hr.mono (by decide)
    refine ⟨_, pss_cons (ps_if (pt_not (pt_val (pe_def Dhb hr1 (pa_cons (pv 0) (pa_cons (pv 1) pa_nil))))) (pss_one (ps_ret (pe_lst (pa_cons (pe_cst T.NO_SUCH) pa_nil)))) pss_nil)
      (pss_cons (ps_if (pt_not (pt_val (pe_def Dme hr1 (pa_cons (pv 2) pa_nil)))) (pss_one (ps_ret (pe_lst (pa_cons (pe_cst T.OUT_OF_RANGE) pa_nil)))) pss_nil)
      (pss_cons (ps_set (i := 3) sc_sieve_batch.nd rfl (Or.inl rfl) (pe_ix ix_list (pe_fld (pv 0) rfl) (pv 1) (fun _ _ => rfl)))
      (pss_cons (ps_if (pt_not (pt_val (pe_def Dus hr1 (pa_cons (pv 3) pa_nil)))) (pss_one (ps_ret (pe_lst (pa_cons (pe_cst T.GONE_OR_UNWASHED) pa_nil)))) pss_nil)
      (pss_cons (ps_set (i := 4) sc_sieve_batch.nd rfl (Or.inl rfl) (pe_def Dpo hr (pa_cons (pv 3) (pa_cons (pe_op op_cat (pe_slice sl_list (pe_fld (pv 3) rfl) po_none (po_some (pv 2))) (pe_op op_rep (pe_lst (pa_cons pe_int pa_nil)) (pe_op op_sub (pe_cst T.SIZE_COUNT) (pv 2)))) pa_nil))))
      (pss_cons (ps_set (i := 5) sc_sieve_batch.nd rfl (Or.inl rfl) (pe_def Dpo hr (pa_cons (pv 3) (pa_cons (pe_op op_cat (pe_op op_rep (pe_lst (pa_cons pe_int pa_nil)) (pv 2)) (pe_slice sl_list (pe_fld (pv 3) rfl) (po_some (pv 2)) po_none)) pa_nil))))
      (pss_cons (ps_if (PW.pt (pw_or (pt_cmpR op_eq (pe_def Dkg hr1 (pa_cons (pv 4) pa_nil)) pe_int (nomark _)) (pw_or1 (pt_cmpR op_eq (pe_def Dkg hr1 (pa_cons (pv 5) pa_nil)) pe_int (nomark _))))) (pss_one (ps_ret (pe_lst (pa_cons (pe_cst T.NOT_SO) pa_nil)))) pss_nil)
      (pss_cons (ps_if (pt_cmpR op_gt (pe_op op_add (pe_callB call_len_seq (by rfl) T.len PySem.boot_len (pa_cons (pe_fld (pv 0) rfl) pa_nil)) pe_int) (pe_cst T.MOST_BATCHES) (nomark _)) (pss_one (ps_ret (pe_lst (pa_cons (pe_cst T.TOO_MANY) pa_nil)))) pss_nil)
      (pss_cons (ps_fld (pv 3) pe_bl rfl)
      (pss_cons (ps_expr (pe_bm PySem.F.plainAttrs_list PySem.F.slot_list_append PySem.F.type_list_append mt_append (pe_fld (pv 0) rfl) (pa_cons (pv 4) pa_nil)))
      (pss_cons (ps_expr (pe_bm PySem.F.plainAttrs_list PySem.F.slot_list_append PySem.F.type_list_append mt_append (pe_fld (pv 0) rfl) (pa_cons (pv 5) pa_nil)))
      (pss_one (ps_ret (pe_lst (pa_cons (pe_op op_sub (pe_callB call_len_seq (by rfl) T.len PySem.boot_len (pa_cons (pe_fld (pv 0) rfl) pa_nil)) pe_int) (pa_cons (pe_def Dkg hr1 (pa_cons (pv 4) pa_nil)) (pa_cons (pe_def Dkg hr1 (pa_cons (pv 5) pa_nil)) pa_nil)))))))))))))))), ?_⟩
    refine rd_hb KT rfl rfl (ite_nd (fun hb => ?_) fun hb => ?_)
    · refine ⟨one_ok, fun p hp => ?_⟩
      have e : a.does (.sieve b m) = (a, Kv342.say (-2)) := by show (if a.has b = false then _ else _) = _; rw [has_f hb, if_pos rfl]
      rw [e] at q
      exact q.new KT (Same.refl H) hp
    · obtain ⟨x, hx⟩ : ∃ x, a.batches[b]? = some x := ⟨_, List.getElem?_eq_getElem hb⟩
      obtain ⟨p, sz, rt, hp, B⟩ := KT.ba b x hx
      obtain ⟨dx, hpx⟩ := B.at_
      have ox := KT.ok.b x (List.mem_of_getElem? hx)
      have e0 : a.does (.sieve b m) = (if m = 0 ∨ 4 < m then (a, Kv342.say (-22)) else if x.gone ∨ x.waste ≠ 0 then (a, Kv342.say (-16)) else if (Kv342.under x.sizes m).sum = 0 ∨ (Kv342.over x.sizes m).sum = 0 then (a, Kv342.say (-33)) else if 39 ≤ a.batches.length then (a, Kv342.say (-28)) else
          ({ a with batches := (a.batches.modify b fun y => { y with gone := true }) ++ [{ x with sizes := Kv342.under x.sizes m }, { x with sizes := Kv342.over x.sizes m }] }, ⟨(a.batches.length : Nat), [(Kv342.under x.sizes m).sum, (Kv342.over x.sizes m).sum]⟩)) := by
        show (if a.has b = false then _ else _) = _
        rw [has_t hb, if_neg (by decide), batch_at hx]
      rw [e0] at q
      have bad : (m = 0 ∨ 4 < m) → ∀ p, H p = none → Q (.ref p) (upd H p (.lst [V.int (-22)])) := fun hc p hp => by
        rw [if_pos hc] at q
        exact q.new KT (Same.refl H) hp
      refine rd_mesh rfl (ite_nd (fun hc => ⟨one_ok, bad (by omega)⟩) fun hc => ?_)
      have hm1 : 1 ≤ m := by omega
      have hm2 : m ≤ 4 := by omega
      have psum := (parts_sum ox.five hm1 hm2).2
      rw [if_neg (by omega)] at q
      refine rd_bat C KT rfl rfl hp ?_
      refine rd_use rfl B (ite_nd (fun hu => ?_) fun hu => ?_)
      · refine ⟨one_ok, fun r hr' => ?_⟩
        rw [if_pos (not_use hu)] at q
        exact q.new KT (Same.refl H) hr'
      rw [if_neg (use_no hu)] at q
      -- through
      refine ⟨_, rfl, rd_under C rfl rfl hpx B.sz ox.five hm1 hm2 fun H1 z1 s1 nz1 hz1 => ?_⟩
      refine ⟨p, sz, rt, z1, x, _, rfl, B.same s1, hz1, fun H2 p1 t1 s2 np1 nt1 B1 => ?_⟩
      rw [part_eq hu] at B1
      have s12 := s1.trans s2
      -- stays
      refine ⟨_, rfl, rd_over C rfl rfl (s12 _ _ hpx) (s12 _ _ B.sz) ox.five hm1 hm2 fun H3 z2 s3 nz2 hz2 => ?_⟩
      refine ⟨p, sz, rt, z2, x, _, rfl, (B.same s12).same s3, hz2, fun H4 p2 t2 s4 np2 nt2 B2 => ?_⟩
      rw [part_eq hu] at B2
      have s24 := s3.trans s4
      have s14 := s12.trans s24
      have B1' := B1.same s24
      have no : ∀ c, ((Kv342.under x.sizes m).sum = 0 ∨ (Kv342.over x.sizes m).sum = 0) → H4 c = none → Q (.ref c) (upd H4 c (.lst [V.int (-33)])) := fun c hc hn => by
        rw [if_pos hc] at q
        exact q.new KT s14 hn
      refine ⟨_, rfl, p1, z1, t1, _, rfl, B1', rfl, _, rfl, ite_d (fun hc => iteT ⟨one_ok, fun c hn => no c (.inl ?_) hn⟩) fun hc => ?_⟩
      · injection hc with hc
        exact Int.ofNat.inj hc
      refine ⟨_, rfl, p2, z2, t2, _, rfl, B2, rfl, _, rfl, ite_d (fun hc => ⟨one_ok, fun c hn => no c (.inr ?_) hn⟩) fun hc2 => ?_⟩
      · injection hc with hc
        exact Int.ofNat.inj hc
      have hu1 : (Kv342.under x.sizes m).sum ≠ 0 := fun e => hc (by show I (Kv342.under x.sizes m).sum = I 0; rw [e])
      have ho1 : (Kv342.over x.sizes m).sum ≠ 0 := fun e => hc2 (by show I (Kv342.over x.sizes m).sum = I 0; rw [e])
      rw [if_neg (by omega)] at q
      have KT4 := KT.same s14
      obtain ⟨dk, hk⟩ := KT4.kit
      have hlen : (bs.map fun b => V.ref b.1).length = a.batches.length := by rw [List.length_map, KT.bl]
      refine ⟨_, rfl, k, CK, dk, _, _, rfl, hk, C.k, C.batches, rfl, LB, _, rfl, .inl (SqL.of KT4.lb), _, _, rfl, rfl, _, _, rfl, rfl, _, rfl, ?_⟩
      rw [hlen]
      refine ite_d (fun hc => ?_) fun hc => ?_
      · refine ⟨one_ok, fun r hr' => ?_⟩
        rw [if_pos (by omega)] at q
        exact q.new KT s14 hr'
      have hl39 : a.batches.length < 39 := by omega
      rw [if_neg (by omega)] at q
      -- batch.gone = True
      refine ⟨_, rfl, p, CB, dx, _, rfl, s14 _ _ hpx, C.b, C.gone, (by show 6 < 1000; decide), ?_⟩
      let H5 : Hp := upd H4 p (.ins CB dx (putF "gone" (.bl true) (bf x sz rt)))
      have k5 : ∀ q o, H4 q = some o → q ≠ p → H5 q = some o := fun q o e h => by show upd H4 p _ q = _; rw [upd_ne h]; exact e
      have KT5 := KT4.setB (H' := H5) (f := fun y => { y with gone := true }) hx hp rfl rfl (by show upd H4 p _ p = _; rw [upd_same]; rfl) k5
      have q1p : p1 ≠ p := fun e => by rw [e, s1 _ _ hpx] at np1; cases np1
      have q2p : p2 ≠ p := fun e => by rw [e, s3 _ _ (s12 _ _ hpx)] at np2; cases np2
      have q12 : p1 ≠ p2 := fun e => by
        obtain ⟨d1, h1⟩ := B1.at_
        rw [← e, s3 _ _ h1] at np2
        cases np2
      have lp : ∀ q xs, H4 q = some (.lst xs) → H5 q = some (.lst xs) := fun q xs e => k5 q _ e (ne_of e (s14 _ _ hpx) lst_ins)
      have B1q : Bat CB H5 p1 z1 t1 { x with sizes := Kv342.under x.sizes m } := ⟨let ⟨d, h⟩ := B1'.at_; ⟨d, k5 _ _ h q1p⟩, lp _ _ B1'.sz, lp _ _ B1'.rt⟩
      have B2q : Bat CB H5 p2 z2 t2 { x with sizes := Kv342.over x.sizes m } := ⟨let ⟨d, h⟩ := B2.at_; ⟨d, k5 _ _ h q2p⟩, lp _ _ B2.sz, lp _ _ B2.rt⟩
      obtain ⟨dk5, hk5⟩ := KT5.kit
      -- the two are appended
      refine ⟨_, rfl, k, CK, dk5, _, _, rfl, hk5, C.k, C.batches, rfl, .inl ⟨rfl, _, SqL.of KT5.lb⟩, _, rfl, LB, _, _, rfl, rfl, KT5.lb, (by rw [hlen, sizeLine_eq]; omega), ?_⟩
      have o1 : BatOk { x with sizes := Kv342.under x.sizes m } := ⟨rfl, Nat.pos_of_ne_zero hu1, ox.root⟩
      have o2 : BatOk { x with sizes := Kv342.over x.sizes m } := ⟨rfl, Nat.pos_of_ne_zero ho1, ox.root⟩
      have nLB : ∀ {H : Hp} {q : Addr} {C dx : Addr} {fs : List (Str × V)} {xs : List V}, H q = some (.ins C dx fs) → H LB = some (.lst xs) → q ≠ LB := fun h1 h2 => ne_of h1 h2 fun e => lst_ins e.symm
      let H6 : Hp := upd H5 LB (.lst ((bs.map fun b => V.ref b.1) ++ [V.ref p1]))
      have k6 : ∀ q o, H5 q = some o → q ≠ LB → H6 q = some o := fun q o e h => by show upd H5 LB _ q = _; rw [upd_ne h]; exact e
      have ints6 : ∀ (q : Addr) (l : List Nat), l ≠ [] → H5 q = some (.lst (l.map I)) → H6 q = some (.lst (l.map I)) := fun q l hl e => k6 q _ e (ne_of e KT5.lb (by rw [refs_fst]; exact ints_refs hl))
      have kit6 : H6 k = some (.ins CK dk5 (kf true a LW LB)) := k6 _ _ hk5 (nLB hk5 KT5.lb)
      have B16 : Bat CB H6 p1 z1 t1 { x with sizes := Kv342.under x.sizes m } := ⟨let ⟨d, h⟩ := B1q.at_; ⟨d, k6 _ _ h (nLB h KT5.lb)⟩, ints6 _ _ o1.ne B1q.sz, ints6 _ _ o1.root B1q.rt⟩
      have B26 : Bat CB H6 p2 z2 t2 { x with sizes := Kv342.over x.sizes m } := ⟨let ⟨d, h⟩ := B2q.at_; ⟨d, k6 _ _ h (nLB h KT5.lb)⟩, ints6 _ _ o2.ne B2q.sz, ints6 _ _ o2.root B2q.rt⟩
      have f1 : H p1 = none := s1.free np1
      have f2 : H p2 = none := (s12.trans s3).free np2
      have ml : (a.batches.modify b fun y => { y with gone := true }).length = a.batches.length := List.length_modify ..
      have fr : ∀ (j : Nat) (q : Addr × Addr × Addr), bs[j]? = some q → q.1 ≠ p1 := KT.fresh f1
      have KT6 := KT5.addB (H' := H6) (p := p1) (sz := z1) (rt := t1) o1 (by show (a.batches.modify b _).length < 40; rw [ml]; omega) (by show _ ≤ 50000 * 2 ^ (a.batches.modify b _).length; rw [ml]; exact kg_up (KT.ok.kg b x hx) (Nat.le_of_lt hb) (by show (Kv342.under x.sizes m).sum ≤ _; omega)) fr ⟨dk5, kit6⟩ (by show upd H5 LB _ LB = _; rw [upd_same, List.map_append]; rfl) B16 (fun q o e h1 _ => k6 q o e h1)
      refine ⟨_, rfl, k, CK, dk5, _, _, rfl, kit6, C.k, C.batches, rfl, .inl ⟨rfl, _, SqL.of KT6.lb⟩, _, rfl, LB, _, _, rfl, rfl, KT6.lb, (by rw [List.length_map, List.length_append, KT.bl, sizeLine_eq]; show a.batches.length + 1 < _; omega), ?_⟩
      let H7 : Hp := upd H6 LB (.lst (((bs ++ [(p1, z1, t1)]).map fun b => V.ref b.1) ++ [V.ref p2]))
      have k7 : ∀ q o, H6 q = some o → q ≠ LB → H7 q = some o := fun q o e h => by show upd H6 LB _ q = _; rw [upd_ne h]; exact e
      have ints7 : ∀ (q : Addr) (l : List Nat), l ≠ [] → H6 q = some (.lst (l.map I)) → H7 q = some (.lst (l.map I)) := fun q l hl e => k7 q _ e (ne_of e KT6.lb (by rw [refs_fst]; exact ints_refs hl))
      have kit7 : H7 k = some (.ins CK dk5 (kf true a LW LB)) := k7 _ _ kit6 (nLB kit6 KT6.lb)
      have B17 : Bat CB H7 p1 z1 t1 { x with sizes := Kv342.under x.sizes m } := ⟨let ⟨d, h⟩ := B16.at_; ⟨d, k7 _ _ h (nLB h KT6.lb)⟩, ints7 _ _ o1.ne B16.sz, ints7 _ _ o1.root B16.rt⟩
      have B27 : Bat CB H7 p2 z2 t2 { x with sizes := Kv342.over x.sizes m } := ⟨let ⟨d, h⟩ := B26.at_; ⟨d, k7 _ _ h (nLB h KT6.lb)⟩, ints7 _ _ o2.ne B26.sz, ints7 _ _ o2.root B26.rt⟩
      have fr2 : ∀ (j : Nat) (q : Addr × Addr × Addr), (bs ++ [(p1, z1, t1)])[j]? = some q → q.1 ≠ p2 := fun j q e => by
        rcases List.mem_append.mp (List.mem_of_getElem? e) with h | h
        · obtain ⟨i, hi⟩ := List.mem_iff_getElem?.mp h
          exact KT.fresh f2 i q hi
        · rw [List.mem_singleton.mp h]
          exact q12
      have KT7 := KT6.addB (H' := H7) (p := p2) (sz := z2) (rt := t2) o2 (by show ((a.batches.modify b _) ++ [_]).length < 40; rw [List.length_append, ml]; show a.batches.length + 1 < 40; omega) (by show _ ≤ 50000 * 2 ^ ((a.batches.modify b _) ++ [_]).length; rw [List.length_append, ml]; exact kg_up (KT.ok.kg b x hx) (Nat.le_trans (Nat.le_of_lt hb) (Nat.le_add_right _ _)) (by show (Kv342.over x.sizes m).sum ≤ _; omega)) fr2 ⟨dk5, kit7⟩ (by show upd H6 LB _ LB = _; rw [upd_same, List.map_append (l₁ := bs ++ [(p1, z1, t1)])]; rfl) B27 (fun q o e h1 _ => k7 q o e h1)
      -- the answer
      refine ⟨_, rfl, k, CK, dk5, _, _, rfl, kit7, C.k, C.batches, rfl, LB, _, rfl, .inl (SqL.of KT7.lb), _, _, rfl, rfl, _, rfl, p1, z1, t1, _, rfl, B17, _, rfl, p2, z2, t2, _, rfl, B27, (by show 3 ≤ sizeLine; decide), fun r hr' => ?_⟩
      have elen : (((bs ++ [(p1, z1, t1)] ++ [(p2, z2, t2)]).map fun b => V.ref b.1).length : Int) - 2 = ((a.batches.length : Nat) : Int) := by
        rw [List.length_map, List.length_append, List.length_append, KT.bl]
        show ((a.batches.length + 1 + 1 : Nat) : Int) - 2 = _
        omega
      show Q (.ref r) (upd H7 r (.lst [V.int ((((bs ++ [(p1, z1, t1)] ++ [(p2, z2, t2)]).map fun b => V.ref b.1).length : Int) - 2), I (Kv342.under x.sizes m).sum, I (Kv342.over x.sizes m).sum]))
      rw [elen]
      have eabs : ({ a with batches := (a.batches.modify b fun y => { y with gone := true }) ++ [{ x with sizes := Kv342.under x.sizes m }, { x with sizes := Kv342.over x.sizes m }] } : Kv342.Abs) =
          { a with batches := ((a.batches.modify b fun y => { y with gone := true }) ++ [{ x with sizes := Kv342.under x.sizes m }]) ++ [{ x with sizes := Kv342.over x.sizes m }] } := by rw [List.append_assoc]; rfl
      rw [eabs] at q
      refine q.chg KT7 (fun u hu => ?_) (fun u o e hu => ?_) (fun u o e => ?_) hr'
      · rcases foot_add hu with h | h | h | h
        · rcases foot_add h with h | h | h | h
          · exact .inl h
          · exact .inr (h ▸ f1)
          · exact .inr (h ▸ nz1)
          · exact .inr (h ▸ s1.free nt1)
        · exact .inr (h ▸ f2)
        · exact .inr (h ▸ s12.free nz2)
        · exact .inr (h ▸ (s12.trans s3).free nt2)
      · have n1 : u ≠ p := fun e => hu (e ▸ mem_foot hp)
        have n2 : u ≠ LB := fun e => hu (e ▸ foot_LB)
        exact k7 _ _ (k6 _ _ (k5 _ _ (s14 _ _ e) n1) n2) n2
      · by_cases e1 : u = LB
        · exact ⟨_, by rw [e1]; exact KT7.lb⟩
        · by_cases e2 : u = p
          · obtain ⟨p', sz', rt', h1, h2⟩ := KT7.ba b { x with gone := true } (by
              show (((a.batches.modify b fun y => { y with gone := true }) ++ [_]) ++ [_])[b]? = _
              rw [List.getElem?_append_left (by rw [List.length_append, ml]; exact Nat.lt_succ_of_lt hb), List.getElem?_append_left (by rw [ml]; exact hb), List.getElem?_modify, hx]
              simp)
            obtain ⟨d, h3⟩ := h2.at_
            have : (bs ++ [(p1, z1, t1)] ++ [(p2, z2, t2)])[b]? = some (p, sz, rt) := by
              rw [List.getElem?_append_left (by rw [List.length_append, KT.bl]; exact Nat.lt_succ_of_lt hb), List.getElem?_append_left (by rw [KT.bl]; exact hb)]
              exact hp
            have ep := Option.some.inj (h1.symm.trans this)
            injection ep with ep _
            exact ⟨_, by rw [e2, ← ep]; exact h3⟩
          · exact ⟨_, k7 _ _ (k6 _ _ (k5 _ _ (s14 _ _ e) e2) e1) e1⟩
end
end Bl
end
section
set_option Elab.async false
set_option linter.all false
set_option maxRecDepth 100000
set_option maxHeartbeats 2000000
namespace Bl
open PySem PySem.Spec PyProof.Rows L2
section
variable {P : Program} {w : World} {K : PySem.W.Frag} {mg : Str → Option Value} {base : Heap} {CW CB CK : Addr} {H H' H1 : Hp} {k : Addr} {a a' : Kv342.Abs} {LW LB : Addr} {ws : List Addr} {bs : List (Addr × Addr × Addr)} {σ : L2.St}
def sp_mixture_of (CB : Addr) : Sp := fun vs H Q _ => ∃ (p sz rt p' sz' rt' : Addr) (x y : Kv342.Batch), vs = [.ref p, .ref p'] ∧ Bat CB H p sz rt x ∧ Bat CB H p' sz' rt' y ∧ BatOk x ∧ BatOk y ∧
  ∀ (H' : Hp) (r z t : Addr), Same H H' → H r = none → H z = none → H t = none → Bat CB H' r z t { x with sizes := Kv342.added x.sizes y.sizes, roots := Kv342.bits x.roots y.roots, waste := 0, gone := false } → Q (.ref r) H'
theorem sc_mixture_of : FnScope ["one", "other", "sizes", "roots", "k"] ["one", "other"] (defScope s_mixture_of) := ⟨rfl, rfl, rfl, by decide +kernel, rfl, by decide +kernel, by decide +kernel⟩
theorem atI_I {l : List Nat} {j n : Nat} (h : l[j]? = some n) : atI (l.map I) (0 + ((j : Nat) : Int)) = some (I n) := at_of (j := j) (by omega) (by rw [List.getElem?_map, h]; rfl)
theorem take_snocN {α : Type} : ∀ {l : List α} {i : Nat} {x : α}, l[i]? = some x → l.take (i + 1) = l.take i ++ [x] := fun {l i x} h => by
  rw [List.take_add_one, h]
  rfl
theorem added_at {l m : List Nat} {i : Nat} (hi : i < 5) {u v : Nat} (h1 : l[i]? = some u) (h2 : m[i]? = some v) : (Kv342.added l m)[i]? = some (u + v) := by
  unfold Kv342.added
  rw [List.getElem?_map, List.getElem?_range hi]
  show some (l.getD i 0 + m.getD i 0) = _
  rw [List.getD_eq_getElem?_getD, List.getD_eq_getElem?_getD, h1, h2]
  rfl
theorem ok_mixture_of (R : Raw K mg "mixture_of" s_mixture_of ["one", "other"]) (T : Cst mg) (C : Cl K CW CB CK) (DB : Ini P w K mg base 1 "Batch" CB ["self", "waste", "sizes", "alive", "green", "roots"] (sp_Batch CB)) : Def P w K mg base 3 "mixture_of" ["one", "other"] (sp_mixture_of CB) := by
  refine R.ok sc_mixture_of (fun vs H Q E h => ?_) (fun f cdv A outer s H vs Q E hr h => ?_)
  · obtain ⟨p, sz, rt, p', sz', rt', x, y, rfl, _⟩ := h
    rfl
  · obtain ⟨p, sz, rt, p', sz', rt', x, y, rfl, B, B', ox, oy, q⟩ := h
    obtain ⟨dx, hp⟩ := B.at_
    obtain ⟨dy, hp'⟩ := B'.at_
    refine ⟨_, pss_cons (ps_setLc (i := 2) (own := [("k", 4)]) (g := gName 4) (tt := tYes) (te := tOp (rI0 fun i j => .int (i + j)) (tOp (rIxL K) (tFld K (tVar 0) "sizes") (tVar 4)) (tOp (rIxL K) (tFld K (tVar 1) "sizes") (tVar 4))) rfl sc_mixture_of.nd rfl rfl (sw_true rfl rfl rfl (by decide +kernel)) (pi_range1 rfl T.range (pa_cons (pe_cst T.SIZE_COUNT) pa_nil)) (blkOk_by (by show blkC ["one", "other", "sizes", "roots", "k"] (defScope s_mixture_of) _ [("k", 4)] = true; decide +kernel))
        (fun _ _ _ _ _ => pg_name (i := 4) sc_mixture_of.nd rfl (Or.inl rfl)) (fun _ _ _ _ _ => pts_nil)
        (fun _ _ _ _ _ => pe_op op_add (pe_ix ix_list (pe_fld (pv 0) rfl) (pv 4) (fun _ _ => rfl)) (pe_ix ix_list (pe_fld (pv 1) rfl) (pv 4) (fun _ _ => rfl))))
      (pss_cons (ps_set (i := 3) sc_mixture_of.nd rfl (Or.inl rfl) (pe_callB (cr_sortedI rfl) (by rfl) T.sorted PyProof.Rows.boot_sorted (pa_cons (pe_op op_orI (pe_callTy (cr_setI rfl) (by rfl) T.set PyProof.Rows.boot_set (pa_cons (pe_fld (pv 0) rfl) pa_nil)) (pe_callTy (cr_setI rfl) (by rfl) T.set PyProof.Rows.boot_set (pa_cons (pe_fld (pv 1) rfl) pa_nil))) pa_nil)))
      (pss_one (ps_ret (pe_new DB hr (pa_cons pe_int (pa_cons (pv 2) (pa_cons (pe_fld (pv 0) rfl) (pa_cons (pe_fld (pv 0) rfl) (pa_cons (pv 3) pa_nil))))))))), ?_⟩
    refine ⟨(5 : Int), rfl, by decide, by decide, fun D hD => ?_⟩
    have sD : ∀ o, Same H (upd H D o) := fun o => Same.new hD
    refine lc_range (n := 5) (fun i H' => H' = upd H D (.lst (((Kv342.added x.sizes y.sizes).take i).map I))) rfl ?_ ?_
    · rintro i H' hi rfl
      obtain ⟨u, hu⟩ : ∃ u, x.sizes[i]? = some u := ⟨_, List.getElem?_eq_getElem (by rw [ox.five]; exact hi)⟩
      obtain ⟨v, hv⟩ : ∃ v, y.sizes[i]? = some v := ⟨_, List.getElem?_eq_getElem (by rw [oy.five]; exact hi)⟩
      have s := sD (.lst (((Kv342.added x.sizes y.sizes).take i).map I))
      refine ⟨rfl, ?_⟩
      unfold tYes
      dsimp only
      rw [if_pos rfl]
      refine ⟨_, rfl, p, CB, dx, _, _, rfl, s _ _ hp, C.b, C.sizes, rfl, _, rfl, sz, _, _, _, rfl, rfl, SqL.of (s _ _ B.sz), atI_I hu, ?_⟩
      refine ⟨_, rfl, p', CB, dy, _, _, rfl, s _ _ hp', C.b, C.sizes, rfl, _, rfl, sz', _, _, _, rfl, rfl, SqL.of (s _ _ B'.sz), atI_I hv, _, _, rfl, rfl, _, upd_same, ?_, ?_⟩
      · rw [List.length_map, List.length_take, sizeLine_eq]
        omega
      · rw [upd_upd, take_snocN (added_at hi hu hv), List.map_append]
        rfl
    · rintro H' rfl
      have e5 : (Kv342.added x.sizes y.sizes).take 5 = Kv342.added x.sizes y.sizes := List.take_of_length_le (Nat.le_of_eq (added_len _ _))
      rw [e5]
      have s1 := sD (.lst ((Kv342.added x.sizes y.sizes).map I))
      have lt : ∀ (n : Nat), ∀ k ∈ rootsOf n, k < 12 := fun n k hk => ((mem_roots n k).mp hk).1
      refine ⟨_, rfl, p, CB, dx, _, _, rfl, s1 _ _ hp, C.b, C.roots, rfl, rt, rootsOf x.roots, rfl, SqL.of (s1 _ _ B.rt), lt _, fun g1 k1 n1 m1 => ?_⟩
      have s2 := s1.trans (Same.new (o := setO (cxOf CX0 P w K mg base ["one", "other", "sizes", "roots", "k"] "mixture_of" (defScope s_mixture_of) f cdv A outer s H E).nox true g1 k1) n1)
      refine ⟨_, rfl, p', CB, dy, _, _, rfl, s2 _ _ hp', C.b, C.roots, rfl, rt', rootsOf y.roots, rfl, SqL.of (s2 _ _ B'.rt), lt _, fun g2 k2 n2 m2 => ?_⟩
      have s3 := Same.new (o := setO (cxOf CX0 P w K mg base ["one", "other", "sizes", "roots", "k"] "mixture_of" (defScope s_mixture_of) f cdv A outer s H E).nox true g2 k2) n2
      have g12 : g1 ≠ g2 := ne_of_none upd_same n2
      refine ⟨g1, g2, k1, k2, rfl, rfl, s3 _ _ upd_same, upd_same, ?_, g12, fun g3 k3 n3 m3 => ?_⟩
      · intro e
        subst e
        cases hroot : rootsOf x.roots with
        | nil => exact ox.root hroot
        | cons z zs =>
          have := (m1 z).mpr (by rw [hroot]; exact List.mem_cons_self)
          cases this
      have s4 := Same.new (o := setO (cxOf CX0 P w K mg base ["one", "other", "sizes", "roots", "k"] "mixture_of" (defScope s_mixture_of) f cdv A outer s H E).nox false g3 k3) n3
      refine ⟨g3, false, k3, rfl, upd_same, fun g4 ns n4 hs m4 => ?_⟩
      have er : ns = rootsOf (Kv342.bits x.roots y.roots) := roots_bits hs fun j => by rw [m4, m3, m1, m2]
      have s5 := Same.new (o := .lst (ns.map fun k => V.int ((k : Nat) : Int))) n4
      have s25 := (s3.trans s4).trans s5
      have s05 := s2.trans s25
      refine ⟨_, rfl, _, rfl, p, CB, dx, _, _, rfl, s05 _ _ hp, C.b, C.alive, rfl, _, rfl, p, CB, dx, _, _, rfl, s05 _ _ hp, C.b, C.green, rfl, _, rfl, ?_⟩
      intro r dr nr ndr ner
      have s6 := made_same (C := CB) (fs := bf { x with sizes := Kv342.added x.sizes y.sizes, roots := Kv342.bits x.roots y.roots, waste := 0, gone := false } D g4) nr ndr
      refine ⟨r, dr, D, g4, { x with sizes := Kv342.added x.sizes y.sizes, roots := Kv342.bits x.roots y.roots, waste := 0, gone := false }, rfl, rfl, upd_same, rfl, ?_⟩
      refine q _ r D g4 (s05.trans s6) (s05.free nr) hD ((s2.trans (s3.trans s4)).free n4) ⟨⟨dr, upd_same⟩, s6 _ _ (s25 _ _ (Same.new n1 _ _ upd_same)), ?_⟩
      have : rootsOf ({ x with sizes := Kv342.added x.sizes y.sizes, roots := Kv342.bits x.roots y.roots, waste := 0, gone := false } : Kv342.Batch).roots = ns := er.symm
      rw [this]
      exact s6 _ _ upd_same
end
end Bl
end
section
set_option Elab.async false
set_option linter.all false
set_option maxRecDepth 100000
set_option maxHeartbeats 2000000
namespace Bl
open PySem PySem.Spec PyProof.Rows L2
section
variable {P : Program} {w : World} {K : PySem.W.Frag} {mg : Str → Option Value} {base : Heap} {CW CB CK : Addr} {H H' H1 : Hp} {k : Addr} {a a' : Kv342.Abs} {LW LB : Addr} {ws : List Addr} {bs : List (Addr × Addr × Addr)} {σ : L2.St}
/-- a batch is appended -/
theorem Kit.app (T : Kit CW CB CK H k a LW LB ws bs) {p z t : Addr} {x : Kv342.Batch} (B : Bat CB H p z t x) (ox : BatOk x) (hl : a.batches.length < 40) (hkg : x.sizes.sum ≤ 50000 * 2 ^ a.batches.length) (fr : ∀ (j : Nat) (q : Addr × Addr × Addr), bs[j]? = some q → q.1 ≠ p) :
    Kit CW CB CK (upd H LB (.lst ((bs.map fun b => V.ref b.1) ++ [V.ref p]))) k { a with batches := a.batches ++ [x] } LW LB ws (bs ++ [(p, z, t)]) ∧ Bat CB (upd H LB (.lst ((bs.map fun b => V.ref b.1) ++ [V.ref p]))) p z t x := by
  have nLB : ∀ {q : Addr} {C dx : Addr} {fs : List (Str × V)}, H q = some (.ins C dx fs) → q ≠ LB := fun h1 => ne_of h1 T.lb fun e => lst_ins e.symm
  have k6 : ∀ q o, H q = some o → q ≠ LB → upd H LB (.lst ((bs.map fun b => V.ref b.1) ++ [V.ref p])) q = some o := fun q o e h => by rw [upd_ne h]; exact e
  have ints6 : ∀ (q : Addr) (l : List Nat), l ≠ [] → H q = some (.lst (l.map I)) → upd H LB (.lst ((bs.map fun b => V.ref b.1) ++ [V.ref p])) q = some (.lst (l.map I)) := fun q l hl e => k6 q _ e (ne_of e T.lb (by rw [refs_fst]; exact ints_refs hl))
  obtain ⟨dk, hk⟩ := T.kit
  have B6 : Bat CB (upd H LB (.lst ((bs.map fun b => V.ref b.1) ++ [V.ref p]))) p z t x := ⟨let ⟨d, h⟩ := B.at_; ⟨d, k6 _ _ h (nLB h)⟩, ints6 _ _ ox.ne B.sz, ints6 _ _ ox.root B.rt⟩
  refine ⟨?_, B6⟩
  exact T.addB ox hl hkg fr ⟨dk, k6 _ _ hk (nLB hk)⟩ (by rw [upd_same, List.map_append]; rfl) B6 (fun q o e h1 _ => k6 q o e h1)
theorem sc_mix_batches : FnScope ["kitchen", "b", "c", "one", "other", "mixture"] ["kitchen", "b", "c"] (defScope s_mix_batches) := ⟨rfl, rfl, rfl, by decide +kernel, rfl, by decide +kernel, by decide +kernel⟩
def sp_mix_batches (CW CB CK : Addr) : Sp := fun vs H Q _ => ∃ b c : Nat, spc CW CB CK [I b, I c] (.mix b c) vs H Q
theorem ok_mix_batches (R : Raw K mg "mix_batches" s_mix_batches ["kitchen", "b", "c"]) (T : Cst mg) (C : Cl K CW CB CK) (Dhb : Def P w K mg base 1 "has_batch" ["kitchen", "b"] (sp_has_batch CW CB CK))
    (Dus : Def P w K mg base 1 "is_usable" ["batch"] (sp_is_usable CB)) (Dkg : Def P w K mg base 1 "kilograms" ["batch"] (sp_kilograms CB)) (Dmo : Def P w K mg base 3 "mixture_of" ["one", "other"] (sp_mixture_of CB)) : Def P w K mg base 4 "mix_batches" ["kitchen", "b", "c"] (sp_mix_batches CW CB CK) := by
  refine R.ok sc_mix_batches (fun vs H Q E h => ?_) (fun f cdv A outer s H vs Q E hr h => ?_)
  · obtain ⟨b, m, k, a, LW, LB, ws, bs, rfl, _⟩ := h
    rfl
  · obtain ⟨b, c, k, a, LW, LB, ws, bs, rfl, KT, q⟩ := h
    have hr1 : Room 1 _ := hr.mono (by decide)
    refine ⟨_, pss_cons (ps_if (PW.pt (pw_or (pt_not (pt_val (pe_def Dhb hr1 (pa_cons (pv 0) (pa_cons (pv 1) pa_nil))))) (pw_or1 (pt_not (pt_val (pe_def Dhb hr1 (pa_cons (pv 0) (pa_cons (pv 2) pa_nil)))))))) (pss_one (ps_ret (pe_lst (pa_cons (pe_cst T.NO_SUCH) pa_nil)))) pss_nil)
      (pss_cons (ps_if (pt_cmpR op_eq (pv 1) (pv 2) (nomark _)) (pss_one (ps_ret (pe_lst (pa_cons (pe_cst T.OUT_OF_RANGE) pa_nil)))) pss_nil)
      (pss_cons (ps_set (i := 3) sc_mix_batches.nd rfl (Or.inl rfl) (pe_ix ix_list (pe_fld (pv 0) rfl) (pv 1) (fun _ _ => rfl)))
      (pss_cons (ps_set (i := 4) sc_mix_batches.nd rfl (Or.inl rfl) (pe_ix ix_list (pe_fld (pv 0) rfl) (pv 2) (fun _ _ => rfl)))
      (pss_cons (ps_if (PW.pt (pw_or (pt_not (pt_val (pe_def Dus hr1 (pa_cons (pv 3) pa_nil)))) (pw_or1 (pt_not (pt_val (pe_def Dus hr1 (pa_cons (pv 4) pa_nil))))))) (pss_one (ps_ret (pe_lst (pa_cons (pe_cst T.GONE_OR_UNWASHED) pa_nil)))) pss_nil)
      (pss_cons (ps_if (PW.pt (pw_or (pt_cmpR op_ne (pe_fld (pv 3) rfl) (pe_fld (pv 4) rfl) (nomark _)) (pw_or1 (pt_cmpR op_ne (pe_fld (pv 3) rfl) (pe_fld (pv 4) rfl) (nomark _))))) (pss_one (ps_ret (pe_lst (pa_cons (pe_cst T.NOT_SO) pa_nil)))) pss_nil)
      (pss_cons (ps_if (pt_cmpR op_eq (pe_callB call_len_seq (by rfl) T.len PySem.boot_len (pa_cons (pe_fld (pv 0) rfl) pa_nil)) (pe_cst T.MOST_BATCHES) (nomark _)) (pss_one (ps_ret (pe_lst (pa_cons (pe_cst T.TOO_MANY) pa_nil)))) pss_nil)
      (pss_cons (ps_set (i := 5) sc_mix_batches.nd rfl (Or.inl rfl) (pe_def Dmo hr (pa_cons (pv 3) (pa_cons (pv 4) pa_nil))))
      (pss_cons (ps_fld (pv 3) pe_bl rfl)
      (pss_cons (ps_fld (pv 4) pe_bl rfl)
      (pss_cons (ps_expr (pe_bm PySem.F.plainAttrs_list PySem.F.slot_list_append PySem.F.type_list_append mt_append (pe_fld (pv 0) rfl) (pa_cons (pv 5) pa_nil)))
      (pss_one (ps_ret (pe_lst (pa_cons (pe_op op_sub (pe_callB call_len_seq (by rfl) T.len PySem.boot_len (pa_cons (pe_fld (pv 0) rfl) pa_nil)) pe_int) (pa_cons (pe_def Dkg hr1 (pa_cons (pv 5) pa_nil)) pa_nil))))))))))))))), ?_⟩
    have none2 : (a.has b = false ∨ a.has c = false) → ∀ p, H p = none → Q (.ref p) (upd H p (.lst [V.int (-2)])) := fun hn p hp => by
      have e : a.does (.mix b c) = (a, Kv342.say (-2)) := if_pos hn
      rw [e] at q
      exact q.new KT (Same.refl H) hp
    refine rd_hb KT rfl rfl (ite_nd (fun hb => iteT ⟨one_ok, none2 (.inl (has_f hb))⟩) fun hb => rd_hb KT rfl rfl (ite_nd (fun hc => ⟨one_ok, none2 (.inr (has_f hc))⟩) fun hc => ?_))
    obtain ⟨x, hx⟩ : ∃ x, a.batches[b]? = some x := ⟨_, List.getElem?_eq_getElem hb⟩
    obtain ⟨y, hy⟩ : ∃ y, a.batches[c]? = some y := ⟨_, List.getElem?_eq_getElem hc⟩
    have e0 : a.does (.mix b c) = (if b = c then (a, Kv342.say (-22)) else if x.gone ∨ y.gone ∨ x.waste ≠ 0 ∨ y.waste ≠ 0 then (a, Kv342.say (-16)) else if x.alive ≠ y.alive ∨ x.green ≠ y.green then (a, Kv342.say (-33)) else if 40 ≤ a.batches.length then (a, Kv342.say (-28)) else
        ({ a with batches := ((a.batches.modify b fun z => { z with gone := true }).modify c fun z => { z with gone := true }) ++ [{ x with sizes := Kv342.added x.sizes y.sizes, roots := Kv342.bits x.roots y.roots, secs := max x.secs y.secs }] }, ⟨(a.batches.length : Nat), [x.kg + y.kg]⟩)) := by
      show (if a.has b = false ∨ a.has c = false then _ else _) = _
      rw [if_neg (by rw [has_t hb, has_t hc]; decide), batch_at hx, batch_at hy]
    rw [e0] at q
    clear e0 none2
    refine ⟨_, rfl, _, rfl, rfl, _, rfl, ite_d (fun he => ?_) fun he => ?_⟩
    · refine ⟨one_ok, fun r hr' => ?_⟩
      rw [if_pos (eqI_iff.mp he)] at q
      exact q.new KT (Same.refl H) hr'
    have hbc : b ≠ c := fun e => he (eqI_iff.mpr e)
    rw [if_neg hbc] at q
    obtain ⟨p, sz, rt, hp, B⟩ := KT.ba b x hx
    obtain ⟨p', sz', rt', hp', B'⟩ := KT.ba c y hy
    obtain ⟨dx, hpx⟩ := B.at_
    obtain ⟨dy, hpy⟩ := B'.at_
    have ox := KT.ok.b x (List.mem_of_getElem? hx)
    have oy := KT.ok.b y (List.mem_of_getElem? hy)
    refine rd_bat C KT rfl rfl hp (rd_bat C KT rfl rfl hp' ?_)
    have bad : (x.gone ∨ y.gone ∨ x.waste ≠ 0 ∨ y.waste ≠ 0) → ∀ r, H r = none → Q (.ref r) (upd H r (.lst [V.int (-16)])) := fun hu r hr' => by
      rw [if_pos hu] at q
      exact q.new KT (Same.refl H) hr'
    refine rd_use rfl B (ite_nd (fun hu => iteT ⟨one_ok, bad ?_⟩) fun hu => rd_use rfl B' (ite_nd (fun hv => ⟨one_ok, bad ?_⟩) fun hv => ?_))
    · rcases not_use hu with h | h
      · exact .inl h
      · exact .inr (.inr (.inl h))
    · rcases not_use hv with h | h
      · exact .inr (.inl h)
      · exact .inr (.inr (.inr h))
    rw [if_neg (by rw [hu.1, hv.1, hu.2, hv.2]; decide)] at q
    have dif : (x.alive ≠ y.alive ∨ x.green ≠ y.green) → ∀ r, H r = none → Q (.ref r) (upd H r (.lst [V.int (-33)])) := fun hu r hr' => by
      rw [if_pos hu] at q
      exact q.new KT (Same.refl H) hr'
    refine ⟨_, rfl, p, CB, dx, _, _, rfl, hpx, C.b, C.alive, rfl, _, rfl, p', CB, dy, _, _, rfl, hpy, C.b, C.alive, rfl, rfl, _, rfl, ite_nd (fun h => iteT ⟨one_ok, dif (.inl fun e => h (eqI_iff.mpr e))⟩) fun ha => ?_⟩
    refine ⟨_, rfl, p, CB, dx, _, _, rfl, hpx, C.b, C.green, rfl, _, rfl, p', CB, dy, _, _, rfl, hpy, C.b, C.green, rfl, rfl, _, rfl, ite_nd (fun h => ⟨one_ok, dif (.inr fun e => h (eqI_iff.mpr e))⟩) fun hg => ?_⟩
    have ha := eqI_iff.mp ha
    have hg := eqI_iff.mp hg
    rw [if_neg (by rw [ha, hg]; simp)] at q
    obtain ⟨dk, hk⟩ := KT.kit
    have hlen : (bs.map fun b => V.ref b.1).length = a.batches.length := by rw [List.length_map, KT.bl]
    refine ⟨_, rfl, k, CK, dk, _, _, rfl, hk, C.k, C.batches, rfl, LB, _, rfl, .inl (SqL.of KT.lb), rfl, _, rfl, ?_⟩
    rw [hlen]
    have h40 := KT.ok.bl
    refine ite_d (fun h => ?_) fun h => ?_
    · have h : a.batches.length = 40 := eqI_iff.mp (show I a.batches.length = I 40 from h)
      refine ⟨one_ok, fun r hr' => ?_⟩
      rw [if_pos (by omega)] at q
      exact q.new KT (Same.refl H) hr'
    have hl : a.batches.length ≠ 40 := fun e => h (show I a.batches.length = I 40 by rw [e])
    rw [if_neg (by omega)] at q
    -- the mixture
    refine ⟨_, rfl, _, rfl, p, sz, rt, p', sz', rt', x, y, rfl, B, B', ox, oy, fun H1 r z t s1 nr nz nt B1 => ?_⟩
    have KT1 := KT.same s1
    have pp : p ≠ p' := fun e => hbc (nd_ix KT.nd (x := p) (by rw [List.getElem?_map, hp]; rfl) (by rw [List.getElem?_map, hp', e]; rfl))
    have rp : r ≠ p := fun e => by rw [e, hpx] at nr; cases nr
    have rp' : r ≠ p' := fun e => by rw [e, hpy] at nr; cases nr
    -- both are gone
    refine ⟨_, rfl, p, CB, dx, _, rfl, s1 _ _ hpx, C.b, C.gone, (by show 6 < 1000; decide), ?_⟩
    let H2 : Hp := upd H1 p (.ins CB dx (putF "gone" (.bl true) (bf x sz rt)))
    have k2 : ∀ q o, H1 q = some o → q ≠ p → H2 q = some o := fun q o e h => by show upd H1 p _ q = _; rw [upd_ne h]; exact e
    have KT2 := KT1.setB (H' := H2) (f := fun y => { y with gone := true }) hx hp rfl rfl (by show upd H1 p _ p = _; rw [upd_same]; rfl) k2
    have hpy2 : H2 p' = some (.ins CB dy (bf y sz' rt')) := k2 _ _ (s1 _ _ hpy) (Ne.symm pp)
    refine ⟨_, rfl, p', CB, dy, _, rfl, hpy2, C.b, C.gone, (by show 6 < 1000; decide), ?_⟩
    let H3 : Hp := upd H2 p' (.ins CB dy (putF "gone" (.bl true) (bf y sz' rt')))
    have k3 : ∀ q o, H2 q = some o → q ≠ p' → H3 q = some o := fun q o e h => by show upd H2 p' _ q = _; rw [upd_ne h]; exact e
    have hy2 : (a.set_ b fun y => { y with gone := true }).batches[c]? = some y := by
      show (a.batches.modify b _)[c]? = _
      rw [List.getElem?_modify, hy]
      simp [hbc]
    have KT3 := KT2.setB (H' := H3) (f := fun y => { y with gone := true }) hy2 hp' rfl rfl (by show upd H2 p' _ p' = _; rw [upd_same]; rfl) k3
    have lp : ∀ q xs, H1 q = some (.lst xs) → H3 q = some (.lst xs) := fun q xs e => k3 q _ (k2 q _ e (ne_of e (s1 _ _ hpx) lst_ins)) (ne_of e (s1 _ _ hpy) lst_ins)
    have B3 : Bat CB H3 r z t { x with sizes := Kv342.added x.sizes y.sizes, roots := Kv342.bits x.roots y.roots, secs := max x.secs y.secs } := by
      refine ⟨?_, lp _ _ B1.sz, lp _ _ B1.rt⟩
      obtain ⟨d, h⟩ := B1.at_
      refine ⟨d, ?_⟩
      rw [k3 _ _ (k2 _ _ h rp) rp']
      unfold bf
      dsimp only
      rw [hu.1, hu.2]
    have o3 : BatOk { x with sizes := Kv342.added x.sizes y.sizes, roots := Kv342.bits x.roots y.roots, secs := max x.secs y.secs } := by
      refine ⟨rfl, ?_, fun e => ?_⟩
      · show 0 < (Kv342.added x.sizes y.sizes).sum
        rw [added_sum ox.five oy.five]
        have := ox.pos
        omega
      · have e : rootsOf (Kv342.bits x.roots y.roots) = [] := e
        cases hroot : rootsOf x.roots with
        | nil => exact ox.root hroot
        | cons j l =>
          have hj : j ∈ rootsOf x.roots := by rw [hroot]; exact List.mem_cons_self
          have hj' := (mem_roots _ _).mp hj
          have : j ∈ rootsOf (Kv342.bits x.roots y.roots) := (mem_roots _ _).mpr ⟨hj'.1, by rw [bits_has _ _ _ hj'.1, hj'.2]; rfl⟩
          rw [e] at this
          cases this
    have ml : ((a.batches.modify b fun y => { y with gone := true }).modify c fun y => { y with gone := true }).length = a.batches.length := by rw [List.length_modify, List.length_modify]
    obtain ⟨KT4, B4⟩ := KT3.app B3 o3 (by show ((a.batches.modify b _).modify c _).length < 40; rw [ml]; omega) (by show (Kv342.added x.sizes y.sizes).sum ≤ 50000 * 2 ^ ((a.batches.modify b _).modify c _).length; rw [ml, added_sum ox.five oy.five]; exact kg_two (KT.ok.kg b x hx) (KT.ok.kg c y hy) hb hc) (KT.fresh nr)
    obtain ⟨dk3, hk3⟩ := KT3.kit
    obtain ⟨dk4, hk4⟩ := KT4.kit
    refine ⟨_, rfl, k, CK, dk3, _, _, rfl, hk3, C.k, C.batches, rfl, .inl ⟨rfl, _, SqL.of KT3.lb⟩, _, rfl, LB, _, _, rfl, rfl, KT3.lb, (by rw [hlen, sizeLine_eq]; omega), ?_⟩
    refine ⟨_, rfl, k, CK, dk4, _, _, rfl, hk4, C.k, C.batches, rfl, LB, _, rfl, .inl (SqL.of KT4.lb), _, _, rfl, rfl, _, rfl, r, z, t, _, rfl, B4, (by show 2 ≤ sizeLine; decide), fun v hv' => ?_⟩
    have elen : (((bs ++ [(r, z, t)]).map fun b => V.ref b.1).length : Int) - 1 = ((a.batches.length : Nat) : Int) := by
      rw [List.length_map, List.length_append, KT.bl]
      show ((a.batches.length + 1 : Nat) : Int) - 1 = _
      omega
    have ekg : Kv342.Batch.kg { x with sizes := Kv342.added x.sizes y.sizes, roots := Kv342.bits x.roots y.roots, secs := max x.secs y.secs } = x.kg + y.kg := added_sum ox.five oy.five
    show Q (.ref v) (upd _ v (.lst [V.int ((((bs ++ [(r, z, t)]).map fun b => V.ref b.1).length : Int) - 1), I (Kv342.Batch.kg { x with sizes := Kv342.added x.sizes y.sizes, roots := Kv342.bits x.roots y.roots, secs := max x.secs y.secs })]))
    rw [elen, ekg]
    refine q.chg KT4 (fun u hu => ?_) (fun u o e hu => ?_) (fun u o e => ?_) hv'
    · rcases foot_add hu with h | h | h | h
      · exact .inl h
      · exact .inr (h ▸ nr)
      · exact .inr (h ▸ nz)
      · exact .inr (h ▸ nt)
    · have n1 : u ≠ p := fun e => hu (e ▸ mem_foot hp)
      have n2 : u ≠ p' := fun e => hu (e ▸ mem_foot hp')
      have n3 : u ≠ LB := fun e => hu (e ▸ foot_LB)
      rw [upd_ne n3]
      exact k3 _ _ (k2 _ _ (s1 _ _ e) n1) n2
    · by_cases e1 : u = LB
      · exact ⟨_, by rw [e1]; exact upd_same⟩
      · rw [upd_ne e1]
        by_cases e2 : u = p'
        · exact ⟨_, by rw [e2]; exact upd_same⟩
        · by_cases e3 : u = p
          · exact ⟨_, by rw [e3]; exact k3 _ _ (show H2 p = _ from upd_same) pp⟩
          · exact ⟨_, k3 _ _ (k2 _ _ (s1 _ _ e) e3) e2⟩
end
end Bl
end
section
set_option Elab.async false
set_option linter.all false
set_option maxRecDepth 100000
set_option maxHeartbeats 2000000
namespace Bl
open PySem PySem.Spec PyProof.Rows L2
/-! ### the kitchen, begun or not -/
/-- what is kept stands for the state S; F: all the addresses that are of it -/
def KS (CW CB CK : Addr) (H : Hp) (k : Addr) (F : List Addr) : Kv342.State → Prop
  | none => (∃ dx a LW LB, H k = some (.ins CK dx (kf false a LW LB))) ∧ F = [k]
  | some a => ∃ LW LB ws bs, Kit CW CB CK H k a LW LB ws bs ∧ F = foot k LW LB ws bs
def PostS (CW CB CK : Addr) (H : Hp) (k : Addr) (F : List Addr) (S : Kv342.State) (ans : List Int) (Q : VK) : Prop :=
  ∀ (H' : Hp) (p : Addr) (F' : List Addr), KS CW CB CK H' k F' S → H' p = some (Ls ans) → H p = none → (∀ q o, H q = some o → q ∉ F → H' q = some o) → (∀ q ∈ F', q ∈ F ∨ H q = none) → Q (.ref p) H'
def spS (CW CB CK : Addr) (args : List V) (cl : Kv342.Call) : List V → Hp → VK → Prop := fun vs H Q => ∃ (k : Addr) (S : Kv342.State) (F : List Addr), vs = .ref k :: args ∧ KS CW CB CK H k F S ∧ PostS CW CB CK H k F (Kv342.act S cl).1 (Kv342Neutral.row (Kv342.act S cl).2) Q
section
variable {P : Program} {w : World} {K : PySem.W.Frag} {mg : Str → Option Value} {base : Heap} {CW CB CK : Addr} {H H' H1 : Hp} {k : Addr} {a a' : Kv342.Abs} {LW LB : Addr} {ws : List Addr} {bs : List (Addr × Addr × Addr)} {σ : L2.St} {F : List Addr} {S : Kv342.State}
theorem KS.obj (h : KS CW CB CK H k F S) : ∃ dx b a LW LB, H k = some (.ins CK dx (kf b a LW LB)) ∧ (b = S.isSome) := by
  cases S with
  | none => obtain ⟨⟨dx, a, LW, LB, h⟩, _⟩ := h; exact ⟨dx, _, a, LW, LB, h, rfl⟩
  | some a => obtain ⟨LW, LB, ws, bs, T, _⟩ := h; obtain ⟨dx, h⟩ := T.kit; exact ⟨dx, _, a, LW, LB, h, rfl⟩
theorem KS.mem (h : KS CW CB CK H k F S) : k ∈ F := by
  cases S with
  | none => rw [h.2]; exact List.mem_cons_self
  | some a => obtain ⟨LW, LB, ws, bs, T, rfl⟩ := h; exact foot_k
theorem KS.same (h : KS CW CB CK H k F S) (s : Same H H') : KS CW CB CK H' k F S := by
  cases S with
  | none => obtain ⟨⟨dx, a, LW, LB, h⟩, e⟩ := h; exact ⟨⟨dx, a, LW, LB, s _ _ h⟩, e⟩
  | some a => obtain ⟨LW, LB, ws, bs, T, e⟩ := h; exact ⟨LW, LB, ws, bs, T.same s, e⟩
theorem PostS.new {p : Addr} {ans : List Int} {Q : VK} (q : PostS CW CB CK H k F S ans Q) (T : KS CW CB CK H k F S) (s : Same H H') (hp : H' p = none) : Q (.ref p) (upd H' p (Ls ans)) := by
  have s2 : Same H (upd H' p (Ls ans)) := fun b o e => Same.new hp b o (s b o e)
  exact q _ p F (T.same s2) upd_same (s.free hp) (fun b o e _ => s2 b o e) fun b hb => .inl hb
/-- a call on a kitchen that is begun -/
theorem PostS.post {cl : Kv342.Call} {Q : VK} (q : PostS CW CB CK H k (foot k LW LB ws bs) (Kv342.act (some a) cl).1 (Kv342Neutral.row (Kv342.act (some a) cl).2) Q) : Post CW CB CK H k (foot k LW LB ws bs) (a.does cl).1 (Kv342Neutral.row (a.does cl).2) Q :=
  fun H' p LW' LB' ws' bs' T h1 h2 h3 h4 => q H' p _ ⟨LW', LB', ws', bs', T, rfl⟩ h1 h2 h3 h4
theorem sc_begin_anew : FnScope ["kitchen", "limit"] ["kitchen", "limit"] (defScope s_begin_anew) := ⟨rfl, rfl, rfl, by decide +kernel, rfl, by decide +kernel, by decide +kernel⟩
def sp_begin_anew (CW CB CK : Addr) : Sp := fun vs H Q _ => ∃ l : Nat, spS CW CB CK [I l] (.begin_ l) vs H Q
theorem act_begin_bad {S : Kv342.State} {l : Nat} (h : 1000000 ≤ l) : Kv342.act S (.begin_ l) = (S, Kv342.say (-22)) := by
  cases S with
  | none =>
    have e : (Kv342.begun 0).does (.begin_ l) = (Kv342.begun 0, Kv342.say (-22)) := if_pos h
    show (if ((Kv342.begun 0).does (.begin_ l)).2.ret < 0 then _ else _) = _
    rw [e]
    rfl
  | some a =>
    have e : a.does (.begin_ l) = (a, Kv342.say (-22)) := if_pos h
    show (some (a.does (.begin_ l)).1, (a.does (.begin_ l)).2) = _
    rw [e]
theorem act_begin_ok {S : Kv342.State} {l : Nat} (h : ¬ 1000000 ≤ l) : Kv342.act S (.begin_ l) = (some (Kv342.begun l), Kv342.say 0) := by
  cases S with
  | none =>
    have e : (Kv342.begun 0).does (.begin_ l) = (Kv342.begun l, Kv342.say 0) := if_neg h
    show (if ((Kv342.begun 0).does (.begin_ l)).2.ret < 0 then _ else _) = _
    rw [e]
    rfl
  | some a =>
    have e : a.does (.begin_ l) = (Kv342.begun l, Kv342.say 0) := if_neg h
    show (some (a.does (.begin_ l)).1, (a.does (.begin_ l)).2) = _
    rw [e]
def sp_make_empty (CK : Addr) : Sp := fun vs H Q _ => ∃ (k dx : Addr) (b : Bool) (l : Nat) (fs : List (Str × V)), vs = [.ref k, I l] ∧ H k = some (.ins CK dx fs) ∧ (fs = ([("begun", .bl b)] : List (Str × V)) ∨ ∃ a0 LW0 LB0, fs = kf b a0 LW0 LB0) ∧
  ∀ (H' : Hp) (r1 r2 : Addr), H r1 = none → H r2 = none → r1 ≠ r2 → H' k = some (.ins CK dx (kf b (Kv342.begun l) r1 r2)) → H' r1 = some (.lst []) → H' r2 = some (.lst []) → (∀ q o, H q = some o → q ≠ k → H' q = some o) → Q .non H'
theorem sc_make_empty : FnScope ["self", "limit"] ["self", "limit"] (defScope s_Kitchen_make_empty) := ⟨rfl, rfl, rfl, by decide +kernel, rfl, by decide +kernel, by decide +kernel⟩
theorem ok_make_empty (R : RawM K CK "make_empty" "Kitchen.make_empty" s_Kitchen_make_empty ["self", "limit"]) (C : Cl K CW CB CK) : MDef P w K mg base 1 CK "make_empty" ["self", "limit"] (sp_make_empty CK) := by
  refine R.ok sc_make_empty (fun vs H Q E h => ?_) (fun f cdv A outer s H vs Q E hr h => ?_)
  · obtain ⟨k, dx, b, l, fs, rfl, _⟩ := h
    rfl
  · obtain ⟨k, dx, b, l, fs, rfl, hk, hfs, q⟩ := h
    refine ⟨_, pss_cons (ps_fld (pv 0) (pv 1) rfl) (pss_cons (ps_fld (pv 0) (pe_lst pa_nil) rfl) (pss_cons (ps_fld (pv 0) (pe_lst pa_nil) rfl) (pss_cons (ps_fld (pv 0) pe_int rfl) (pss_cons (ps_fld (pv 0) pe_int rfl) (pss_cons (ps_fld (pv 0) pe_int rfl) (pss_one (ps_fld (pv 0) pe_int rfl))))))), ?_⟩
    rcases hfs with rfl | ⟨a0, LW0, LB0, rfl⟩
    · refine ⟨_, rfl, _, rfl, k, CK, dx, _, rfl, hk, C.k, C.limit, (by show 1 < 1000; decide), ?_⟩
      refine ⟨Nat.zero_le _, fun r1 n1 => ?_⟩
      have k1 : k ≠ r1 := ne_of_none upd_same n1
      refine ⟨_, rfl, k, CK, dx, _, rfl, (by rw [upd_ne k1]; exact upd_same), C.k, C.warmths, (by show 2 < 1000; decide), ?_⟩
      refine ⟨Nat.zero_le _, fun r2 n2 => ?_⟩
      have k2 : k ≠ r2 := ne_of_none upd_same n2
      have r12 : r1 ≠ r2 := ne_of_none (show _ = some (HO.lst []) by rw [upd_ne (Ne.symm k1)]; exact upd_same) n2
      refine ⟨_, rfl, k, CK, dx, _, rfl, (by rw [upd_ne k2]; exact upd_same), C.k, C.batches, (by show 3 < 1000; decide), ?_⟩
      refine ⟨_, rfl, k, CK, dx, _, rfl, upd_same, C.k, C.firsts, (by show 4 < 1000; decide), ?_⟩
      refine ⟨_, rfl, k, CK, dx, _, rfl, upd_same, C.k, C.came, (by show 5 < 1000; decide), ?_⟩
      refine ⟨_, rfl, k, CK, dx, _, rfl, upd_same, C.k, C.washed, (by show 6 < 1000; decide), ?_⟩
      refine ⟨_, rfl, k, CK, dx, _, rfl, upd_same, C.k, C.packed, (by show 7 < 1000; decide), ?_⟩
      rw [upd_ne (Ne.symm k1)] at n1
      rw [upd_ne (Ne.symm k2), upd_ne (Ne.symm r12), upd_ne (Ne.symm k2)] at n2
      rw [upd_upd, upd_upd, upd_upd, upd_upd]
      refine q _ r1 r2 n1 n2 r12 (by rw [upd_same]; rfl) ?_ ?_ fun u o e hu => ?_
      · rw [upd_ne (Ne.symm k1), upd_ne r12, upd_ne (Ne.symm k1), upd_same]
      · rw [upd_ne (Ne.symm k2), upd_same]
      · have u1 : u ≠ r1 := ne_of_none e n1
        have u2 : u ≠ r2 := ne_of_none e n2
        rw [upd_ne hu, upd_ne u2, upd_ne hu, upd_ne u1, upd_ne hu]
        exact e
    · refine ⟨_, rfl, _, rfl, k, CK, dx, _, rfl, hk, C.k, C.limit, (by show 8 < 1000; decide), ?_⟩
      refine ⟨Nat.zero_le _, fun r1 n1 => ?_⟩
      have k1 : k ≠ r1 := ne_of_none upd_same n1
      refine ⟨_, rfl, k, CK, dx, _, rfl, (by rw [upd_ne k1]; exact upd_same), C.k, C.warmths, (by show 8 < 1000; decide), ?_⟩
      refine ⟨Nat.zero_le _, fun r2 n2 => ?_⟩
      have k2 : k ≠ r2 := ne_of_none upd_same n2
      have r12 : r1 ≠ r2 := ne_of_none (show _ = some (HO.lst []) by rw [upd_ne (Ne.symm k1)]; exact upd_same) n2
      refine ⟨_, rfl, k, CK, dx, _, rfl, (by rw [upd_ne k2]; exact upd_same), C.k, C.batches, (by show 8 < 1000; decide), ?_⟩
      refine ⟨_, rfl, k, CK, dx, _, rfl, upd_same, C.k, C.firsts, (by show 8 < 1000; decide), ?_⟩
      refine ⟨_, rfl, k, CK, dx, _, rfl, upd_same, C.k, C.came, (by show 8 < 1000; decide), ?_⟩
      refine ⟨_, rfl, k, CK, dx, _, rfl, upd_same, C.k, C.washed, (by show 8 < 1000; decide), ?_⟩
      refine ⟨_, rfl, k, CK, dx, _, rfl, upd_same, C.k, C.packed, (by show 8 < 1000; decide), ?_⟩
      rw [upd_ne (Ne.symm k1)] at n1
      rw [upd_ne (Ne.symm k2), upd_ne (Ne.symm r12), upd_ne (Ne.symm k2)] at n2
      rw [upd_upd, upd_upd, upd_upd, upd_upd]
      refine q _ r1 r2 n1 n2 r12 (by rw [upd_same]; rfl) ?_ ?_ fun u o e hu => ?_
      · rw [upd_ne (Ne.symm k1), upd_ne r12, upd_ne (Ne.symm k1), upd_same]
      · rw [upd_ne (Ne.symm k2), upd_same]
      · have u1 : u ≠ r1 := ne_of_none e n1
        have u2 : u ≠ r2 := ne_of_none e n2
        rw [upd_ne hu, upd_ne u2, upd_ne hu, upd_ne u1, upd_ne hu]
        exact e
theorem ok_begin_anew (R : Raw K mg "begin_anew" s_begin_anew ["kitchen", "limit"]) (T : Cst mg) (C : Cl K CW CB CK) (Dem : MDef P w K mg base 1 CK "make_empty" ["self", "limit"] (sp_make_empty CK)) : Def P w K mg base 2 "begin_anew" ["kitchen", "limit"] (sp_begin_anew CW CB CK) := by
  refine R.ok sc_begin_anew (fun vs H Q E h => ?_) (fun f cdv A outer s H vs Q E hr h => ?_)
  · obtain ⟨l, k, S, F, rfl, _⟩ := h
    rfl
  · obtain ⟨l, k, S, F, rfl, KT, q⟩ := h
    refine ⟨_, pss_cons (ps_if (pt_cmpR op_ge (pv 1) (pe_cst T.MILLION) (nomark _)) (pss_one (ps_ret (pe_lst (pa_cons (pe_cst T.OUT_OF_RANGE) pa_nil)))) pss_nil)
      (pss_cons (ps_fld (pv 0) pe_bl rfl) (pss_cons (ps_expr (pe_mdef Dem C.k hr (pv 0) (pa_cons (pv 1) pa_nil)))
      (pss_one (ps_ret (pe_lst (pa_cons pe_int pa_nil)))))), ?_⟩
    refine ⟨_, rfl, _, _, rfl, rfl, _, rfl, ite_d (fun h => ?_) fun h => ?_⟩
    · refine ⟨one_ok, fun p hp => ?_⟩
      rw [act_begin_bad (by omega)] at q
      exact q.new KT (Same.refl H) hp
    · rw [act_begin_ok (by omega)] at q
      obtain ⟨dx, b0, a0, LW0, LB0, hk, _⟩ := KT.obj
      refine ⟨_, rfl, k, CK, dx, _, rfl, hk, C.k, C.begun, (by show 8 < 1000; decide), ?_⟩
      refine ⟨_, rfl, k, dx, _, rfl, upd_same, rfl, _, rfl, k, dx, true, l, _, rfl, upd_same, .inr ⟨a0, LW0, LB0, rfl⟩, fun H1 r1 r2 n1 n2 r12 hk1 h1 h2 kp => ?_⟩
      have k1 : k ≠ r1 := ne_of_none upd_same n1
      have k2 : k ≠ r2 := ne_of_none upd_same n2
      rw [upd_ne (Ne.symm k1)] at n1
      rw [upd_ne (Ne.symm k2)] at n2
      refine ⟨one_ok, fun r3 n3 => ?_⟩
      have k3 : k ≠ r3 := ne_of_none hk1 n3
      have n0 : H r3 = none := by
        cases e : H r3 with
        | none => rfl
        | some o =>
          have := kp r3 o (by rw [upd_ne (Ne.symm k3)]; exact e) (Ne.symm k3)
          rw [n3] at this
          cases this
      have s3 := Same.new (o := .lst [V.int 0]) n3
      refine q _ r3 _ ⟨r1, r2, [], [], ⟨⟨dx, s3 _ _ hk1⟩, s3 _ _ h1, s3 _ _ h2, r12, rfl, (fun j x h => by cases h), rfl, (fun j x h => by cases h), List.nodup_nil, ⟨Nat.zero_le _, (fun x h => by cases h), Nat.zero_le _, (fun x h => by cases h), Nat.zero_le _, (fun j x h => by cases h)⟩⟩, rfl⟩ upd_same n0 (fun u o e hu => ?_) (fun u hu => ?_)
      · have uk : u ≠ k := fun e' => hu (e' ▸ KT.mem)
        exact s3 _ _ (kp u o (by rw [upd_ne uk]; exact e) uk)
      · have hu' : u ∈ [k, r1, r2] := hu
        simp only [List.mem_cons, List.not_mem_nil, or_false] at hu'
        rcases hu' with rfl | rfl | rfl
        · exact .inl KT.mem
        · exact .inr n1
        · exact .inr n2
end
end Bl
end
section
set_option Elab.async false
set_option linter.all false
set_option maxRecDepth 100000
set_option maxHeartbeats 2000000
namespace Bl
open PySem PySem.Spec PyProof.Rows L2
section
variable {P : Program} {w : World} {K : PySem.W.Frag} {mg : Str → Option Value} {base : Heap} {CW CB CK : Addr} {H H' H1 : Hp} {k : Addr} {a a' : Kv342.Abs} {LW LB : Addr} {ws : List Addr} {bs : List (Addr × Addr × Addr)} {σ : L2.St} {F : List Addr} {S : Kv342.State}
def sp_Warmth (CW : Addr) : Sp := fun vs H Q _ => ∃ (p dx : Addr) (x : Kv342.Warm), vs = [.ref p, I x.kills, I x.fades] ∧ H p = some (.ins CW dx []) ∧ Q .non (upd H p (.ins CW dx (wf x)))
theorem sc_Warmth : FnScope ["self", "kills", "fades"] ["self", "kills", "fades"] (defScope s_Warmth) := ⟨rfl, rfl, rfl, by decide +kernel, rfl, by decide +kernel, by decide +kernel⟩
theorem ok_Warmth (R : RawI K mg "Warmth" "Warmth.__init__" CW s_Warmth ["self", "kills", "fades"]) (C : Cl K CW CB CK) : Ini P w K mg base 1 "Warmth" CW ["self", "kills", "fades"] (sp_Warmth CW) := by
  refine R.ok sc_Warmth (fun vs H Q E h => ?_) (fun f cdv A outer s H vs Q E hr h => ?_)
  · obtain ⟨p, dx, x, rfl, _⟩ := h
    rfl
  · obtain ⟨p, dx, x, rfl, hp, q⟩ := h
    refine ⟨_, pss_cons (ps_fld (pv 0) (pv 1) rfl) (pss_one (ps_fld (pv 0) (pv 2) rfl)), ?_⟩
    refine ⟨_, rfl, _, rfl, p, CW, dx, _, rfl, hp, C.w, C.kills, (by show 0 < 1000; decide), ?_⟩
    refine ⟨_, rfl, _, rfl, p, CW, dx, _, rfl, upd_same, C.w, C.fades, (by show 1 < 1000; decide), ?_⟩
    rw [upd_upd]
    exact q
/-- one warmth more -/
theorem Kit.addW (T : Kit CW CB CK H k a LW LB ws bs) {p dx : Addr} {x : Kv342.Warm} (hx : 1 ≤ x.kills ∧ x.kills ≤ 999 ∧ x.fades ≤ 999) (hl : a.warms.length < 5) (hp : H p = some (.ins CW dx (wf x))) :
    Kit CW CB CK (upd H LW (.lst ((ws.map V.ref) ++ [V.ref p]))) k { a with warms := a.warms ++ [x] } LW LB (ws ++ [p]) bs := by
  have nLW : ∀ {q : Addr} {C dx : Addr} {fs : List (Str × V)}, H q = some (.ins C dx fs) → q ≠ LW := fun h1 => ne_of h1 T.lw fun e => lst_ins e.symm
  have k6 : ∀ q o, H q = some o → q ≠ LW → upd H LW (.lst ((ws.map V.ref) ++ [V.ref p])) q = some o := fun q o e h => by rw [upd_ne h]; exact e
  have ints6 : ∀ (q : Addr) (l : List Nat), l ≠ [] → H q = some (.lst (l.map I)) → upd H LW (.lst ((ws.map V.ref) ++ [V.ref p])) q = some (.lst (l.map I)) := fun q l hl e => k6 q _ e (ne_of e T.lw (ints_refs hl))
  obtain ⟨dk, hk⟩ := T.kit
  refine ⟨⟨dk, k6 _ _ hk (nLW hk)⟩, by rw [upd_same, List.map_append]; rfl, k6 _ _ T.lb (Ne.symm T.ne), T.ne, ?_, fun j y hy => ?_, T.bl, fun j y hy => ?_, T.nd, ?_⟩
  · show (ws ++ [p]).length = (a.warms ++ [x]).length
    rw [List.length_append, List.length_append, T.wl]
    rfl
  · have hy' : (a.warms ++ [x])[j]? = some y := hy
    by_cases hj : j < a.warms.length
    · rw [List.getElem?_append_left hj] at hy'
      obtain ⟨q, dq, e1, e2⟩ := T.wa j y hy'
      exact ⟨q, dq, by rw [List.getElem?_append_left (by rw [T.wl]; exact hj)]; exact e1, k6 _ _ e2 (nLW e2)⟩
    · rw [List.getElem?_append_right (by omega)] at hy'
      obtain ⟨rfl, hj0⟩ : y = x ∧ j - a.warms.length = 0 := by
        cases e : j - a.warms.length with
        | zero => rw [e] at hy'; exact ⟨(Option.some.inj hy').symm, rfl⟩
        | succ n => rw [e] at hy'; cases hy'
      refine ⟨p, dx, ?_, k6 _ _ hp (nLW hp)⟩
      rw [List.getElem?_append_right (by rw [T.wl]; omega), T.wl, hj0]
      rfl
  · obtain ⟨q, qs, qr, e1, B⟩ := T.ba j y hy
    have oy := T.ok.b y (List.mem_of_getElem? hy)
    exact ⟨q, qs, qr, e1, let ⟨d, h⟩ := B.at_; ⟨d, k6 _ _ h (nLW h)⟩, ints6 _ _ oy.ne B.sz, ints6 _ _ oy.root B.rt⟩
  · refine ⟨by show (a.warms ++ [x]).length ≤ 5; rw [List.length_append]; show a.warms.length + 1 ≤ 5; omega, fun y hy => ?_, T.ok.bl, T.ok.b, T.ok.f, T.ok.kg⟩
    rcases List.mem_append.mp (show y ∈ a.warms ++ [x] from hy) with h | h
    · exact T.ok.w y h
    · rw [List.mem_singleton.mp h]; exact hx
theorem foot_LW : LW ∈ foot k LW LB ws bs := List.mem_cons_of_mem _ List.mem_cons_self
theorem foot_addW {p q : Addr} (h : q ∈ foot k LW LB (ws ++ [p]) bs) : q ∈ foot k LW LB ws bs ∨ q = p := by
  unfold foot at h ⊢
  simp only [List.mem_cons, List.mem_append, List.not_mem_nil, or_false] at h ⊢
  rcases h with h | h | h | (h | h) | h
  · exact .inl (.inl h)
  · exact .inl (.inr (.inl h))
  · exact .inl (.inr (.inr (.inl h)))
  · exact .inl (.inr (.inr (.inr (.inl h))))
  · exact .inr h
  · exact .inl (.inr (.inr (.inr (.inr h))))
theorem sc_add_warmth : FnScope ["kitchen", "kills", "fades"] ["kitchen", "kills", "fades"] (defScope s_add_warmth) := ⟨rfl, rfl, rfl, by decide +kernel, rfl, by decide +kernel, by decide +kernel⟩
def sp_add_warmth (CW CB CK : Addr) : Sp := fun vs H Q _ => ∃ u v : Nat, spc CW CB CK [I u, I v] (.warm u v) vs H Q
theorem ok_add_warmth (R : Raw K mg "add_warmth" s_add_warmth ["kitchen", "kills", "fades"]) (T : Cst mg) (C : Cl K CW CB CK) (DW : Ini P w K mg base 1 "Warmth" CW ["self", "kills", "fades"] (sp_Warmth CW)) : Def P w K mg base 3 "add_warmth" ["kitchen", "kills", "fades"] (sp_add_warmth CW CB CK) := by
  refine R.ok sc_add_warmth (fun vs H Q E h => ?_) (fun f cdv A outer s H vs Q E hr h => ?_)
  · obtain ⟨u, v, k, a, LW, LB, ws, bs, rfl, _⟩ := h
    rfl
  · obtain ⟨u, v, k, a, LW, LB, ws, bs, rfl, KT, q⟩ := h
    refine ⟨_, pss_cons (ps_if (PW.pt (pw_or (pt_cmpR op_lt (pv 1) pe_int (nomark _)) (pw_or (pt_cmpR op_gt (pv 1) (pe_cst T.MOST_LOST) (nomark _)) (pw_or1 (pt_cmpR op_gt (pv 2) (pe_cst T.MOST_LOST) (nomark _)))))) (pss_one (ps_ret (pe_lst (pa_cons (pe_cst T.OUT_OF_RANGE) pa_nil)))) pss_nil)
      (pss_cons (ps_if (pt_cmpR op_eq (pe_callB call_len_seq (by rfl) T.len PySem.boot_len (pa_cons (pe_fld (pv 0) rfl) pa_nil)) (pe_cst T.MOST_WARMTHS) (nomark _)) (pss_one (ps_ret (pe_lst (pa_cons (pe_cst T.TOO_MANY) pa_nil)))) pss_nil)
      (pss_cons (ps_expr (pe_bm PySem.F.plainAttrs_list PySem.F.slot_list_append PySem.F.type_list_append mt_append (pe_fld (pv 0) rfl) (pa_cons (pe_new DW hr (pa_cons (pv 1) (pa_cons (pv 2) pa_nil))) pa_nil)))
      (pss_one (ps_ret (pe_lst (pa_cons (pe_op op_sub (pe_callB call_len_seq (by rfl) T.len PySem.boot_len (pa_cons (pe_fld (pv 0) rfl) pa_nil)) pe_int) pa_nil)))))), ?_⟩
    have e0 : a.does (.warm u v) = (if u = 0 ∨ 999 < u ∨ 999 < v then (a, Kv342.say (-22)) else if 5 ≤ a.warms.length then (a, Kv342.say (-28)) else ({ a with warms := a.warms ++ [⟨u, v⟩] }, Kv342.say (a.warms.length : Nat))) := rfl
    rw [e0] at q
    have bad : (u = 0 ∨ 999 < u ∨ 999 < v) → ∀ p, H p = none → Q (.ref p) (upd H p (.lst [V.int (-22)])) := fun hc p hp => by
      rw [if_pos hc] at q
      exact q.new KT (Same.refl H) hp
    refine ⟨_, rfl, _, _, rfl, rfl, _, rfl, ite_d (fun hc => iteT ⟨one_ok, bad (.inl (by omega))⟩) fun h1 => ?_⟩
    refine ⟨_, rfl, _, _, rfl, rfl, _, rfl, ite_d (fun hc => iteT ⟨one_ok, bad (.inr (.inl (by omega)))⟩) fun h2 => ?_⟩
    refine ⟨_, rfl, _, _, rfl, rfl, _, rfl, ite_d (fun hc => ⟨one_ok, bad (.inr (.inr (by omega)))⟩) fun h3 => ?_⟩
    rw [if_neg (by omega)] at q
    obtain ⟨dk, hk⟩ := KT.kit
    have hlen : (ws.map V.ref).length = a.warms.length := by rw [List.length_map, KT.wl]
    have h5 := KT.ok.wl
    refine ⟨_, rfl, k, CK, dk, _, _, rfl, hk, C.k, C.warmths, rfl, LW, _, rfl, .inl (SqL.of KT.lw), rfl, _, rfl, ?_⟩
    rw [hlen]
    refine ite_d (fun h => ?_) fun h => ?_
    · have h : a.warms.length = 5 := eqI_iff.mp (show I a.warms.length = I 5 from h)
      refine ⟨one_ok, fun r hr' => ?_⟩
      rw [if_pos (by omega)] at q
      exact q.new KT (Same.refl H) hr'
    have hl : a.warms.length ≠ 5 := fun e => h (show I a.warms.length = I 5 by rw [e])
    rw [if_neg (by omega)] at q
    refine ⟨_, rfl, k, CK, dk, _, _, rfl, hk, C.k, C.warmths, rfl, .inl ⟨rfl, _, SqL.of KT.lw⟩, _, rfl, _, rfl, ?_⟩
    intro p dp np ndp nep
    refine ⟨p, dp, ⟨u, v⟩, rfl, upd_same, rfl, ?_⟩
    have s1 := made_same (C := CW) (fs := wf ⟨u, v⟩) np ndp
    have KT1 := KT.same s1
    have KT2 := KT1.addW (x := ⟨u, v⟩) ⟨by show 1 ≤ u; omega, by show u ≤ 999; omega, by show v ≤ 999; omega⟩ (by omega) upd_same
    obtain ⟨dk2, hk2⟩ := KT2.kit
    refine ⟨LW, _, _, rfl, rfl, KT1.lw, (by rw [hlen, sizeLine_eq]; omega), ?_⟩
    refine ⟨_, rfl, k, CK, dk2, _, _, rfl, hk2, C.k, C.warmths, rfl, LW, _, rfl, .inl (SqL.of KT2.lw), _, _, rfl, rfl, one_ok, fun r hr' => ?_⟩
    have elen : (((ws ++ [p]).map V.ref).length : Int) - 1 = ((a.warms.length : Nat) : Int) := by
      rw [List.length_map, List.length_append, KT.wl]
      show ((a.warms.length + 1 : Nat) : Int) - 1 = _
      omega
    show Q (.ref r) (upd _ r (.lst [V.int ((((ws ++ [p]).map V.ref).length : Int) - 1)]))
    rw [elen]
    refine q.chg KT2 (fun u hu => ?_) (fun u o e hu => ?_) (fun u o e => ?_) hr'
    · rcases foot_addW hu with h | h
      · exact .inl h
      · exact .inr (h ▸ np)
    · have n1 : u ≠ LW := fun e => hu (e ▸ foot_LW)
      rw [upd_ne n1]
      exact s1 _ _ e
    · by_cases e1 : u = LW
      · exact ⟨_, by rw [e1]; exact upd_same⟩
      · exact ⟨o, by rw [upd_ne e1]; exact s1 _ _ e⟩
/-- five sizes as told -/
def okSizes (l : List Nat) : Bool := decide (l.length = 5) && l.all (fun n => decide (n ≤ 10000)) && decide (0 < l.sum)
def sp_are_sizes : Sp := fun vs H Q _ => ∃ (p : Addr) (l : List Nat), vs = [.ref p] ∧ H p = some (.lst (l.map I)) ∧ Q (.bl (okSizes l)) H
theorem sc_are_sizes : FnScope ["sizes"] ["sizes"] (defScope s_are_sizes) := ⟨rfl, rfl, rfl, by decide +kernel, rfl, by decide +kernel, by decide +kernel⟩
theorem ok_are_sizes (R : Raw K mg "are_sizes" s_are_sizes ["sizes"]) (T : Cst mg) : Def P w K mg base 1 "are_sizes" ["sizes"] sp_are_sizes := by
  refine R.ok sc_are_sizes (fun vs H Q E h => ?_) (fun f cdv A outer s H vs Q E hr h => ?_)
  · obtain ⟨p, l, rfl, _⟩ := h
    rfl
  · obtain ⟨p, l, rfl, hp, q⟩ := h
    refine ⟨_, pss_one (ps_ret (pe_and (pe_cmpR op_eq (pe_callB call_len_seq (by rfl) T.len PySem.boot_len (pa_cons (pv 0) pa_nil)) (pe_cst T.SIZE_COUNT) (nomark _)) (pe_and (pe_cmpR op_le (pe_callB (cr_max rfl) (by rfl) T.max PyProof.Rows.boot_max (pa_cons (pv 0) pa_nil)) (pe_cst T.MOST_KILOGRAMS) (nomark _)) (pe_one (pe_cmpR op_gt (pe_callB (cr_sum rfl) (by rfl) T.sum PyProof.Rows.boot_sum (pa_cons (pv 0) pa_nil)) pe_int (nomark _)))))), ?_⟩
    have hz : SqL K H p ((l.map fun k => ((k : Nat) : Int)).map V.int) := SqL.of (by rw [← map_I]; exact hp)
    refine ⟨_, rfl, p, _, rfl, .inl (SqL.of hp), rfl, _, rfl, ?_⟩
    rw [List.length_map]
    refine ite_d (fun h => ?_) fun h => ?_
    · have h : l.length = 5 := eqI_iff.mp (show I l.length = I 5 from h)
      refine ⟨_, rfl, p, _, rfl, hz, by rw [List.length_map]; omega, fun m hm hmax => ?_⟩
      refine ⟨_, _, rfl, rfl, _, rfl, ite_d (fun hle => ?_) fun hle => ?_⟩
      · refine ⟨_, rfl, p, _, rfl, hz, _, _, rfl, rfl, ?_⟩
        rw [sum_ints]
        have e : okSizes l = decide ((0 : Int) < ((l.sum : Nat) : Int)) := by
          unfold okSizes
          rw [decide_eq_true h, show l.all (fun n => decide (n ≤ 10000)) = true from List.all_eq_true.mpr fun n hn => by
            have := hmax ((n : Nat) : Int) (List.mem_map.mpr ⟨n, hn, rfl⟩)
            simp
            omega]
          simp
        rw [e] at q
        exact q
      · have e : okSizes l = false := by
          unfold okSizes
          obtain ⟨n, hn, rfl⟩ := List.mem_map.mp hm
          have : l.all (fun n => decide (n ≤ 10000)) = false := by
            cases hall : l.all (fun n => decide (n ≤ 10000)) with
            | false => rfl
            | true =>
              have := List.all_eq_true.mp hall n hn
              simp at this
              omega
          rw [this]
          simp
        rw [e] at q
        exact q
    · have e : okSizes l = false := by
        unfold okSizes
        rw [decide_eq_false (fun e : l.length = 5 => h (show I l.length = I 5 by rw [e]))]
        rfl
      rw [e] at q
      exact q
end
end Bl
end
section
set_option Elab.async false
set_option linter.all false
set_option maxRecDepth 100000
set_option maxHeartbeats 2000000
namespace Bl
open PySem PySem.Spec PyProof.Rows L2
/-- how many whole numbers stand behind each call's own -/
def WN : List Nat := [1, 2, 2, 1, 2, 2, 3, 2, 1, 1, 3, 2, 2, 1, 2, 1, 1, 1, 1, 1, 2, 0, 1, 1, 0, 0, 0]
/-- the tuple of the text's top -/
def Tab (K : PySem.W.Frag) (mg : Str → Option Value) : Prop := ∃ aW, mg "WHOLE_NUMBERS" = some (.ref aW) ∧ ∀ H : Hp, SqT K H aW (WN.map I)
theorem call_parts {sl : List Int} {cl : Kv342.Call} (h : IsCall sl cl) : ∃ (p n : Nat) (r : List Int), sl = ((p : Nat) : Int) :: r ∧ p < 27 ∧ WN[p]? = some n ∧ (p ≠ 2 → n = r.length) ∧ (p = 2 → n = 2 ∧ ∃ m : Nat, r[1]? = some ((m : Nat) : Int) ∧ r.length = 2 + m) := by
  cases h with
  | batch a l => exact ⟨2, 2, _, rfl, by decide, rfl, fun h => absurd rfl h, fun _ => ⟨rfl, l.length, rfl, by simp; omega⟩⟩
  | begin_ a => exact ⟨0, 1, _, rfl, by decide, rfl, fun _ => rfl, fun h => by cases h⟩
  | warm a b => exact ⟨1, 2, _, rfl, by decide, rfl, fun _ => rfl, fun h => by cases h⟩
  | wash a => exact ⟨3, 1, _, rfl, by decide, rfl, fun _ => rfl, fun h => by cases h⟩
  | sieve a b => exact ⟨4, 2, _, rfl, by decide, rfl, fun _ => rfl, fun h => by cases h⟩
  | mix a b => exact ⟨5, 2, _, rfl, by decide, rfl, fun _ => rfl, fun h => by cases h⟩
  | heat a b c => exact ⟨6, 3, _, rfl, by decide, rfl, fun _ => rfl, fun h => by cases h⟩
  | enough a b => exact ⟨7, 2, _, rfl, by decide, rfl, fun _ => rfl, fun h => by cases h⟩
  | pack a => exact ⟨8, 1, _, rfl, by decide, rfl, fun _ => rfl, fun h => by cases h⟩
  | alive a => exact ⟨9, 1, _, rfl, by decide, rfl, fun _ => rfl, fun h => by cases h⟩
  | would a b c => exact ⟨10, 3, _, rfl, by decide, rfl, fun _ => rfl, fun h => by cases h⟩
  | need a b => exact ⟨11, 2, _, rfl, by decide, rfl, fun _ => rfl, fun h => by cases h⟩
  | leaves a b => exact ⟨12, 2, _, rfl, by decide, rfl, fun _ => rfl, fun h => by cases h⟩
  | best a => exact ⟨13, 1, _, rfl, by decide, rfl, fun _ => rfl, fun h => by cases h⟩
  | hotter a b => exact ⟨14, 2, _, rfl, by decide, rfl, fun _ => rfl, fun h => by cases h⟩
  | half a => exact ⟨15, 1, _, rfl, by decide, rfl, fun _ => rfl, fun h => by cases h⟩
  | done a => exact ⟨16, 1, _, rfl, by decide, rfl, fun _ => rfl, fun h => by cases h⟩
  | kg a => exact ⟨17, 1, _, rfl, by decide, rfl, fun _ => rfl, fun h => by cases h⟩
  | sizes a => exact ⟨18, 1, _, rfl, by decide, rfl, fun _ => rfl, fun h => by cases h⟩
  | mean a => exact ⟨19, 1, _, rfl, by decide, rfl, fun _ => rfl, fun h => by cases h⟩
  | parts a b => exact ⟨20, 2, _, rfl, by decide, rfl, fun _ => rfl, fun h => by cases h⟩
  | live => exact ⟨21, 0, _, rfl, by decide, rfl, fun _ => rfl, fun h => by cases h⟩
  | of_ a => exact ⟨22, 1, _, rfl, by decide, rfl, fun _ => rfl, fun h => by cases h⟩
  | roots a => exact ⟨23, 1, _, rfl, by decide, rfl, fun _ => rfl, fun h => by cases h⟩
  | raw => exact ⟨24, 0, _, rfl, by decide, rfl, fun _ => rfl, fun h => by cases h⟩
  | sums => exact ⟨25, 0, _, rfl, by decide, rfl, fun _ => rfl, fun h => by cases h⟩
  | state => exact ⟨26, 0, _, rfl, by decide, rfl, fun _ => rfl, fun h => by cases h⟩
section
variable {P : Program} {w : World} {K : PySem.W.Frag} {mg : Str → Option Value} {base : Heap} {CW CB CK : Addr} {H H' H1 : Hp} {k : Addr} {a a' : Kv342.Abs} {LW LB : Addr} {ws : List Addr} {bs : List (Addr × Addr × Addr)} {σ : L2.St} {F : List Addr} {S : Kv342.State}
theorem atI_int {l : List Int} {j : Nat} {z : Int} {i : Int} (e : i = ((j : Nat) : Int)) (h : l[j]? = some z) : atI (l.map V.int) i = some (V.int z) := at_of e (by rw [List.getElem?_map, h]; rfl)
theorem drop_at {l sl t : List Int} {st j : Nat} {z : Int} (h : l.drop st = sl ++ t) (hj : sl[j]? = some z) : l[st + j]? = some z := by
  have := congrArg (fun m => m[j]?) h
  simp only [List.getElem?_drop] at this
  rw [this, List.getElem?_append_left (List.getElem?_eq_some_iff.mp hj).1]
  exact hj
def sp_end_of_call (K : PySem.W.Frag) : Sp := fun vs H Q _ => ∃ (c : Addr) (l sl t : List Int) (cl : Kv342.Call) (st : Nat), vs = [.ref c, I st] ∧ SqL K H c (l.map V.int) ∧ l.drop st = sl ++ t ∧ IsCall sl cl ∧ Q (I (st + sl.length)) H
theorem sc_end_of_call : FnScope ["calls", "start", "number", "end"] ["calls", "start"] (defScope s_end_of_call) := ⟨rfl, rfl, rfl, by decide +kernel, rfl, by decide +kernel, by decide +kernel⟩
theorem ok_end_of_call (R : Raw K mg "end_of_call" s_end_of_call ["calls", "start"]) (T : Cst mg) (TT : Tab K mg) : Def P w K mg base 1 "end_of_call" ["calls", "start"] (sp_end_of_call K) := by
  refine R.ok sc_end_of_call (fun vs H Q E h => ?_) (fun f cdv A outer s H vs Q E hr h => ?_)
  · obtain ⟨c, l, sl, t, cl, st, rfl, _⟩ := h
    rfl
  · obtain ⟨c, l, sl, t, cl, st, rfl, hS, hd, hc, q⟩ := h
    obtain ⟨aW, hW, hT⟩ := TT
    obtain ⟨p, n, r, rfl, hp, hn, h1, h2⟩ := call_parts hc
    refine ⟨_, pss_cons (ps_set (i := 2) sc_end_of_call.nd rfl (Or.inl rfl) (pe_ix ix_list (pv 0) (pv 1) (fun _ _ => rfl)))
      (pss_cons (ps_set (i := 3) sc_end_of_call.nd rfl (Or.inl rfl) (pe_op op_add (pe_op op_add (pv 1) pe_int) (pe_ix ix_tup (pe_glob (v := .ref aW) rfl hW rfl) (pv 2) (fun _ _ => rfl))))
      (pss_cons (ps_if (pt_cmpR op_eq (pv 2) (pe_cst T.BATCH) (nomark _)) (pss_one (ps_ret (pe_op op_add (pv 3) (pe_ix ix_list (pv 0) (pe_op op_sub (pv 3) pe_int) (fun _ _ => rfl))))) pss_nil)
      (pss_one (ps_ret (pv 3))))), ?_⟩
    refine ⟨_, rfl, _, rfl, c, _, _, _, rfl, rfl, hS, atI_int (j := st) rfl (by have := drop_at hd (j := 0) rfl; simpa using this), ?_⟩
    refine ⟨_, rfl, _, _, rfl, rfl, _, rfl, aW, _, _, _, rfl, rfl, hT H, at_of (j := p) rfl (by rw [List.getElem?_map, hn]; rfl), _, _, rfl, rfl, ?_⟩
    refine ⟨_, rfl, rfl, _, rfl, ite_d (fun he => ?_) fun he => ?_⟩
    · have he : p = 2 := eqI_iff.mp (show I p = I 2 from he)
      obtain ⟨rfl, m, hm, hl⟩ := h2 he
      refine ⟨_, rfl, _, rfl, _, rfl, _, _, rfl, rfl, c, _, _, _, rfl, rfl, hS, atI_int (j := st + 2) (by omega) (drop_at hd (j := 2) (by rw [List.getElem?_cons_succ]; exact hm)), _, _, rfl, rfl, ?_⟩
      have e : ((st : Nat) : Int) + 1 + ((2 : Nat) : Int) + ((m : Nat) : Int) = ((st + (((p : Nat) : Int) :: r).length : Nat) : Int) := by
        rw [List.length_cons, hl]
        omega
      show Q (V.int (((st : Nat) : Int) + 1 + ((2 : Nat) : Int) + ((m : Nat) : Int))) H
      rw [e]
      exact q
    · have he : p ≠ 2 := fun e => he (show I p = I 2 by rw [e])
      refine ⟨_, rfl, ?_⟩
      have e : ((st : Nat) : Int) + 1 + ((n : Nat) : Int) = ((st + (((p : Nat) : Int) :: r).length : Nat) : Int) := by
        rw [List.length_cons, h1 he]
        omega
      show Q (V.int (((st : Nat) : Int) + 1 + ((n : Nat) : Int))) H
      rw [e]
      exact q
def sp_answer_call (CW CB CK : Addr) : Sp := fun vs H Q _ => ∃ (k c : Addr) (S : Kv342.State) (F : List Addr) (sl : List Int) (cl : Kv342.Call), vs = [.ref k, .ref c] ∧ IsCall sl cl ∧ H c = some (Ls sl) ∧ c ∉ F ∧ KS CW CB CK H k F S ∧
  PostS CW CB CK H k F (Kv342.act S cl).1 (Kv342Neutral.row (Kv342.act S cl).2) Q
def sp_Kitchen (CW CB CK : Addr) : Sp := fun vs H Q _ => ∃ (p dx : Addr), vs = [.ref p] ∧ H p = some (.ins CK dx []) ∧ ∀ H' : Hp, KS CW CB CK H' p [p] none → (∀ b o, H b = some o → b ≠ p → H' b = some o) → Q .non H'
theorem sc_Kitchen : FnScope ["self"] ["self"] (defScope s_Kitchen) := ⟨rfl, rfl, rfl, by decide +kernel, rfl, by decide +kernel, by decide +kernel⟩
theorem ok_Kitchen (R : RawI K mg "Kitchen" "Kitchen.__init__" CK s_Kitchen ["self"]) (C : Cl K CW CB CK) (Dem : MDef P w K mg base 1 CK "make_empty" ["self", "limit"] (sp_make_empty CK)) : Ini P w K mg base 2 "Kitchen" CK ["self"] (sp_Kitchen CW CB CK) := by
  refine R.ok sc_Kitchen (fun vs H Q E h => ?_) (fun f cdv A outer s H vs Q E hr h => ?_)
  · obtain ⟨p, dx, rfl, _⟩ := h
    rfl
  · obtain ⟨p, dx, rfl, hp, q⟩ := h
    refine ⟨_, pss_cons (ps_fld (pv 0) pe_bl rfl) (pss_one (ps_expr (pe_mdef Dem C.k hr (pv 0) (pa_cons pe_int pa_nil)))), ?_⟩
    refine ⟨_, rfl, p, CK, dx, _, rfl, hp, C.k, C.begun, (by show 0 < 1000; decide), ?_⟩
    refine ⟨_, rfl, p, dx, _, rfl, upd_same, rfl, p, dx, false, 0, _, rfl, upd_same, .inl rfl, fun H1 r1 r2 n1 n2 r12 hk1 h1 h2 kp => ?_⟩
    exact q _ ⟨⟨dx, _, r1, r2, hk1⟩, rfl⟩ fun b o e hb => kp b o (by rw [upd_ne hb]; exact e) hb
end
end Bl
end
section
set_option Elab.async false
set_option linter.all false
set_option maxRecDepth 100000
set_option maxHeartbeats 2000000
namespace Bl
open PySem PySem.Spec PyProof.Rows L2
section
variable {P : Program} {w : World} {K : PySem.W.Frag} {mg : Str → Option Value} {base : Heap} {CW CB CK : Addr} {H H' H1 : Hp} {k : Addr} {a a' : Kv342.Abs} {LW LB : Addr} {ws : List Addr} {bs : List (Addr × Addr × Addr)} {σ : L2.St} {F : List Addr} {S : Kv342.State}
theorem foot_ws {j : Nat} {p : Addr} (h : ws[j]? = some p) : p ∈ foot k LW LB ws bs := List.mem_cons_of_mem _ (List.mem_cons_of_mem _ (List.mem_cons_of_mem _ (List.mem_append_left _ (List.mem_of_getElem? h))))
theorem foot_bs {j : Nat} {p sz rt q : Addr} (h : bs[j]? = some (p, sz, rt)) (hq : q ∈ [p, sz, rt]) : q ∈ foot k LW LB ws bs :=
  List.mem_cons_of_mem _ (List.mem_cons_of_mem _ (List.mem_cons_of_mem _ (List.mem_append_right _ (List.mem_flatMap.mpr ⟨_, List.mem_of_getElem? h, hq⟩))))
theorem Kit.on (T : Kit CW CB CK H k a LW LB ws bs) (s : ∀ x ∈ foot k LW LB ws bs, ∀ o, H x = some o → H' x = some o) : Kit CW CB CK H' k a LW LB ws bs where
  kit := let ⟨dx, h⟩ := T.kit; ⟨dx, s _ foot_k _ h⟩
  lw := s _ foot_LW _ T.lw
  lb := s _ foot_LB _ T.lb
  ne := T.ne
  wl := T.wl
  wa := fun j x h => let ⟨p, dx, h1, h2⟩ := T.wa j x h; ⟨p, dx, h1, s _ (foot_ws h1) _ h2⟩
  bl := T.bl
  ba := fun j x h => let ⟨p, sz, rt, h1, B⟩ := T.ba j x h; ⟨p, sz, rt, h1, let ⟨d, e⟩ := B.at_; ⟨d, s _ (foot_bs h1 (by simp)) _ e⟩, s _ (foot_bs h1 (by simp)) _ B.sz, s _ (foot_bs h1 (by simp)) _ B.rt⟩
  nd := T.nd
  ok := T.ok
theorem Kit.dom (T : Kit CW CB CK H k a LW LB ws bs) : ∀ x ∈ foot k LW LB ws bs, ∃ o, H x = some o := fun x hx => by
  unfold foot at hx
  simp only [List.mem_cons, List.mem_append, List.mem_flatMap] at hx
  rcases hx with rfl | rfl | rfl | h | ⟨⟨p, sz, rt⟩, h, hx⟩
  · obtain ⟨d, h⟩ := T.kit; exact ⟨_, h⟩
  · exact ⟨_, T.lw⟩
  · exact ⟨_, T.lb⟩
  · obtain ⟨j, hj⟩ := List.mem_iff_getElem?.mp h
    have hl : j < a.warms.length := by rw [← T.wl]; exact (List.getElem?_eq_some_iff.mp hj).1
    obtain ⟨p, dx, h1, h2⟩ := T.wa j _ (List.getElem?_eq_getElem hl)
    obtain rfl := Option.some.inj (hj.symm.trans h1)
    exact ⟨_, h2⟩
  · obtain ⟨j, hj⟩ := List.mem_iff_getElem?.mp h
    have hl : j < a.batches.length := by rw [← T.bl]; exact (List.getElem?_eq_some_iff.mp hj).1
    obtain ⟨p', sz', rt', h1, B⟩ := T.ba j _ (List.getElem?_eq_getElem hl)
    have e := Option.some.inj (hj.symm.trans h1)
    injection e with e1 e2
    injection e2 with e2 e3
    subst e1 e2 e3
    simp only [List.mem_cons, List.not_mem_nil, or_false] at hx
    rcases hx with rfl | rfl | rfl
    · obtain ⟨d, h⟩ := B.at_; exact ⟨_, h⟩
    · exact ⟨_, B.sz⟩
    · exact ⟨_, B.rt⟩
theorem KS.on (h : KS CW CB CK H k F S) (s : ∀ x ∈ F, ∀ o, H x = some o → H' x = some o) : KS CW CB CK H' k F S := by
  cases S with
  | none => obtain ⟨⟨dx, l, LW, LB, h⟩, rfl⟩ := h; exact ⟨⟨dx, l, LW, LB, s _ List.mem_cons_self _ h⟩, rfl⟩
  | some a => obtain ⟨LW, LB, ws, bs, T, rfl⟩ := h; exact ⟨LW, LB, ws, bs, T.on s, rfl⟩
theorem KS.dom (h : KS CW CB CK H k F S) : ∀ x ∈ F, ∃ o, H x = some o := by
  cases S with
  | none =>
    obtain ⟨⟨dx, l, LW, LB, h⟩, rfl⟩ := h
    intro x hx
    rw [List.mem_singleton.mp hx]
    exact ⟨_, h⟩
  | some a => obtain ⟨LW, LB, ws, bs, T, rfl⟩ := h; exact T.dom
/-- the request's list: not told, not of the kitchen; or an object of the text's top -/
def CA (K : PySem.W.Frag) (H : Hp) (c q : Addr) (F : List Addr) (xs : List V) : Prop := (Rd H c (.lst xs) ∧ c ≠ q ∧ c ∉ F) ∨ (∀ H : Hp, SqL K H c xs)
theorem CA.sq {c q : Addr} {xs : List V} (h : CA K H c q F xs) : SqL K H c xs := by
  rcases h with h | h
  · exact .inl h.1
  · exact h H
theorem rd_kp {c : Addr} {u : HO} (h : Rd H c u) (s : ∀ o, H c = some o → H' c = some o) : Rd H' c u := by
  rcases h with h | ⟨o, h⟩
  · exact .inl (s _ h)
  · exact .inr ⟨o, s _ h⟩
theorem rd_some {c : Addr} {u : HO} (h : Rd H c u) : ∃ o, H c = some o := by
  rcases h with h | ⟨o, h⟩
  · exact ⟨_, h⟩
  · exact ⟨_, h⟩
theorem CA.step {c q : Addr} {xs : List V} {F' : List Addr} (h : CA K H c q F xs) (s : ∀ o, c ∉ F → c ≠ q → H c = some o → H' c = some o) (hF : ∀ x ∈ F', x ∈ F ∨ H x = none) : CA K H' c q F' xs := by
  rcases h with ⟨h1, h2, h3⟩ | h
  · refine .inl ⟨rd_kp h1 fun o e => s o h3 h2 e, h2, fun hc => ?_⟩
    rcases hF c hc with e | e
    · exact h3 e
    · obtain ⟨o, ho⟩ := rd_some h1
      rw [e] at ho
      cases ho
  · exact .inr h
theorem cut_mid {l sl t : List Int} {st : Nat} (h : l.drop st = sl ++ t) (hst : st ≤ l.length) : cutV (l.map V.int) (some ((st : Nat) : Int)) (some ((st + sl.length : Nat) : Int)) = sl.map V.int := by
  unfold cutV
  rw [HT.sIx_nat, HT.sIx_nat, List.length_map]
  have hl : st + sl.length ≤ l.length := by
    have := congrArg List.length h
    rw [List.length_drop, List.length_append] at this
    omega
  rw [Nat.min_eq_left hst, Nat.min_eq_left hl, ← List.map_drop, h, Nat.add_sub_cancel_left, List.map_append, List.take_left' (by rw [List.length_map])]
def spAns (K : PySem.W.Frag) : Sp := fun vs H Q _ => ∃ (c : Addr) (ns : List Int), vs = [.ref c] ∧ SqL K H c (ns.map V.int) ∧ PyKv342.answers_asked ns = true ∧ ∀ (H' : Hp) (p : Addr), H' p = some (Ls (PyKv342.answers ns)) → Q (.ref p) H'
theorem asked_short {l : List Int} (h : PyKv342.answers_asked l = true) : (PyKv342.answers l).length ≤ 10000000 := by
  unfold PyKv342.answers_asked at h
  cases e : PyFlat.calls PyKv342.shape l.length l with
  | none => rw [e] at h; cases h
  | some cs =>
    rw [e] at h
    dsimp only at h
    simp only [Bool.and_eq_true] at h
    have := h.2
    unfold PyFlat.short at this
    simpa using this
theorem sc_answers : FnScope ["calls", "kitchen", "told", "start", "end", "answer"] ["calls"] (defScope s_answers) := ⟨rfl, rfl, rfl, by decide +kernel, rfl, by decide +kernel, by decide +kernel⟩
theorem run_answers {n : Nat} {f : Addr} {fd : FuncData} (Fn : Fun K "answers" "answers" s_answers f fd) (T : Cst mg) (DK : Ini P w K mg base 2 "Kitchen" CK ["self"] (sp_Kitchen CW CB CK)) (De : Def P w K mg base 1 "end_of_call" ["calls", "start"] (sp_end_of_call K)) (Da : Def P w K mg base (n + 3) "answer_call" ["kitchen", "call"] (sp_answer_call CW CB CK)) :
    FnOk P w K mg base CX0 (n + 4) f fd ["calls"] (spAns K) := by
  refine Fn.ok sc_answers (fun vs H Q E h => ?_) (fun cdv A outer s H vs Q E hr h => ?_)
  · obtain ⟨c, ns, rfl, _⟩ := h
    rfl
  · obtain ⟨c, ns, rfl, hS, hask, fin⟩ := h
    have hr1 : Room 1 _ := hr.mono (by omega)
    have hr3 : Room 3 _ := hr.mono (by omega)
    obtain ⟨cs0, hc0, hb0, h256, hdue⟩ := asked_calls hask
    have hshort := asked_short hask
    refine ⟨_, pss_cons (ps_set (i := 1) sc_answers.nd rfl (Or.inl rfl) (pe_new0 DK hr3))
      (pss_cons (ps_set (i := 2) sc_answers.nd rfl (Or.inl rfl) (pe_lst pa_nil))
      (pss_cons (ps_set (i := 3) sc_answers.nd rfl (Or.inl rfl) pe_int)
      (pss_cons (ps_while PassesOwn.never (pt_cmpR op_lt (pv 3) (pe_callB call_len_seq (by rfl) T.len PySem.boot_len (pa_cons (pv 0) pa_nil)) (nomark _))
        (pss_cons (ps_set (i := 4) sc_answers.nd rfl (Or.inl rfl) (pe_def De hr1 (pa_cons (pv 0) (pa_cons (pv 3) pa_nil))))
        (pss_cons (ps_set (i := 5) sc_answers.nd rfl (Or.inl rfl) (pe_def Da hr (pa_cons (pv 1) (pa_cons (pe_slice sl_list (pv 0) (po_some (pv 3)) (po_some (pv 4))) pa_nil))))
        (pss_cons (ps_expr (pe_bm PySem.F.plainAttrs_list PySem.F.slot_list_append PySem.F.type_list_append mt_append (pv 2) (pa_cons (pe_callB call_len_seq (by rfl) T.len PySem.boot_len (pa_cons (pv 5) pa_nil)) pa_nil)))
        (pss_cons (ps_expr (pe_bm PySem.F.plainAttrs_list PySem.F.slot_list_extend PySem.F.type_list_extend mt_extend (pv 2) (pa_cons (pv 5) pa_nil)))
        (pss_one (ps_set (i := 3) sc_answers.nd rfl (Or.inl rfl) (pv 4))))))))
      (pss_one (ps_ret (pv 2)))))), ?_⟩
    -- kitchen = Kitchen()
    intro k dk nk ndk nek
    refine ⟨k, dk, rfl, upd_same, fun H1 ks1 kp1 => ⟨rfl, ?_⟩⟩
    have s1 : Same H H1 := Same.made nk ndk kp1
    -- told = [], start = 0
    refine ⟨Nat.zero_le _, fun q nq => ?_⟩
    have s2 : Same H1 (upd H1 q (.lst [])) := Same.new nq
    have qk : q ≠ k := fun e => by
      obtain ⟨o, ho⟩ := ks1.dom k ks1.mem
      rw [e, ho] at nq
      cases nq
    have ca0 : CA K (upd H1 q (.lst [])) c q [k] (ns.map V.int) := by
      rcases hS with h | h
      · have h1 : Rd H1 c (.lst (ns.map V.int)) := rd_kp h fun o e => s1 _ _ e
        obtain ⟨o, ho⟩ := rd_some h1
        refine .inl ⟨rd_kp h1 fun o e => s2 _ _ e, ne_of_none ho nq, fun hc => ?_⟩
        have := List.mem_singleton.mp hc
        obtain ⟨o', ho'⟩ := rd_some h
        rw [this, nk] at ho'
        cases ho'
      · exact .inr fun H => .inr h
    refine while_by (fun σ H' => ∃ (st : Nat) (S : Kv342.State) (F : List Addr) (cs : List (List (List Int))) (f : Nat) (acc : List Int) (v4 v5 : Option V), σ = [some (.ref c), some (.ref k), some (.ref q), some (I st), v4, v5] ∧ CA K H' c q F (ns.map V.int) ∧ H' q = some (Ls acc) ∧ q ∉ F ∧ KS CW CB CK H' k F S ∧
        PyFlat.calls PyKv342.shape f (ns.drop st) = some cs ∧ PyInside.calls PyKv342.bound cs = true ∧ acc ++ due S cs = PyKv342.answers ns ∧ st ≤ ns.length)
      (fun (σ : L2.St) _ => match σ[3]? with | some (some (V.int z)) => ns.length - z.toNat | _ => 0) ?_ ?_ ?_
    · exact ⟨0, none, [k], cs0, ns.length, [], none, none, rfl, ca0, upd_same, fun hq => qk (List.mem_singleton.mp hq), ks1.same s2, hc0, hb0, hdue.symm, Nat.zero_le _⟩
    · rintro σ H' ⟨st, S, F, cs, f', acc, v4, v5, rfl, ca, hq, nqF, ks, hcs, hbs, heq, hst⟩
      refine ⟨_, rfl, _, rfl, c, _, rfl, .inl ca.sq, _, _, rfl, rfl, _, rfl, ?_⟩
      rw [List.length_map]
      refine ite_d (fun hlt => ?_) fun hge => ?_
      · have hlt : st < ns.length := by omega
        have hdrop : ns.drop st = ns[st] :: ns.drop (st + 1) := List.drop_eq_getElem_cons hlt
        rw [hdrop] at hcs
        obtain ⟨f2, sl, t, c0, cs', cl, e1, hcall, rfl, e3, e4, e5⟩ := calls_cons hcs hbs
        have hd : ns.drop st = sl ++ t := hdrop.trans e1
        have hd2 : ns.drop (st + sl.length) = t := by rw [← List.drop_drop, hd, List.drop_left' rfl]
        have hl2 : st + sl.length ≤ ns.length := by
          have := congrArg List.length hd
          rw [List.length_drop, List.length_append] at this
          omega
        have hsl : 0 < sl.length := by
          obtain ⟨p, n, r, rfl, _⟩ := call_parts hcall
          simp
        rw [due_cons e5] at heq
        -- end = end_of_call(calls, start)
        refine ⟨_, rfl, _, rfl, c, ns, sl, t, cl, st, rfl, ca.sq, hd, hcall, ?_⟩
        -- answer = answer_call(kitchen, calls[start:end])
        refine ⟨_, rfl, _, rfl, _, rfl, _, rfl, _, rfl, _, rfl, c, _, rfl, ca.sq, fun r nr => ?_⟩
        rw [cut_mid hd hst]
        have s3 : Same H' (upd H' r (.lst (sl.map V.int))) := Same.new nr
        have rF : r ∉ F := fun h => by
          obtain ⟨o, ho⟩ := ks.dom r h
          rw [nr] at ho
          cases ho
        refine ⟨k, r, S, F, sl, cl, rfl, hcall, upd_same, rF, ks.same s3, fun H2 p F' ks2 hp np kp2 hF' => ?_⟩
        have hq1 : upd H' r (.lst (sl.map V.int)) q = some (Ls acc) := s3 _ _ hq
        have hq2 : H2 q = some (Ls acc) := kp2 _ _ hq1 nqF
        have qF' : q ∉ F' := fun h => by
          rcases hF' q h with e | e
          · exact nqF e
          · rw [e] at hq1
            cases hq1
        have pq : p ≠ q := fun e => by
          rw [e, hq1] at np
          cases np
        have hF2 : ∀ x ∈ F', x ∈ F ∨ H' x = none := fun x hx => by
          rcases hF' x hx with e | e
          · exact .inl e
          · exact .inr (s3.free e)
        have hlen : (PyKv342.answers ns).length = acc.length + ((Kv342Neutral.row (Kv342.act S cl).2).length + 1 + (due (Kv342.act S cl).1 cs').length) := by
          rw [← heq, List.length_append, List.length_append, List.length_cons]
        -- told.append(len(answer)); told.extend(answer)
        refine ⟨_, rfl, .inl ⟨rfl, _, SqL.of hq2⟩, _, rfl, p, _, rfl, .inl (SqL.of hp), q, _, _, rfl, rfl, hq2, (by rw [List.length_map, sizeLine_eq]; omega), ?_⟩
        refine ⟨_, rfl, .inl ⟨rfl, _, SqL.of upd_same⟩, _, rfl, q, p, _, _, rfl, rfl, upd_same, (by rw [upd_ne pq]; exact hp), (by rw [List.length_append, List.length_map, List.length_map, sizeLine_eq]; show acc.length + 1 + _ ≤ _; omega), ?_⟩
        -- start = end
        refine ⟨_, rfl, ⟨st + sl.length, (Kv342.act S cl).1, F', cs', f2, acc ++ (((Kv342Neutral.row (Kv342.act S cl).2).length : Int) :: Kv342Neutral.row (Kv342.act S cl).2), _, _, rfl, ?_, ?_, qF', ?_, by rw [hd2]; exact e3, e4, by rw [List.append_assoc]; exact heq, hl2⟩, ?_⟩
        · refine ca.step (fun o h1 h2 e => ?_) hF2
          rw [upd_ne h2, upd_ne h2]
          exact kp2 _ _ (s3 _ _ e) h1
        · rw [upd_same, List.length_map]
          show some (HO.lst _) = some (HO.lst _)
          rw [List.map_append, List.map_cons, List.append_assoc]
          rfl
        · refine ks2.on fun x hx o e => ?_
          have : x ≠ q := fun e' => qF' (e' ▸ hx)
          rw [upd_ne this, upd_ne this]
          exact e
        · show ns.length - (((st + sl.length : Nat) : Int)).toNat < ns.length - (((st : Nat) : Int)).toNat
          rw [Int.toNat_natCast, Int.toNat_natCast]
          omega
      · have e : st = ns.length := by omega
        rw [e, List.drop_length] at hcs
        obtain rfl := calls_nil hcs
        have e2 : acc = PyKv342.answers ns := by
          rw [← heq]
          show acc = acc ++ []
          rw [List.append_nil]
        rw [e2] at hq
        exact ⟨_, rfl, fin H' q hq⟩
    · rintro σ H Q Q' hQ ⟨v, h1, u, h2, p, ys, h3, h4, i, j, h5, h6, b, h7, h8⟩
      exact ⟨v, h1, u, h2, p, ys, h3, h4, i, j, h5, h6, b, h7, hQ _ _ h8⟩
end
end Bl
end
section
set_option Elab.async false
set_option linter.all false
set_option maxRecDepth 100000
set_option maxHeartbeats 2000000
namespace Bl
open PySem PySem.Spec PyProof.Rows L2
theorem iteN {x y : Int} {A B : Prop} (h : x ≠ y) (hb : B) : if decide (V.int x = V.int y) = true then A else B := by
  rw [decide_eq_false (fun e => h (by injection e))]
  exact hb
theorem iteY {x : Int} {A B : Prop} (ha : A) : if decide (V.int x = V.int x) = true then A else B := by
  rw [decide_eq_true rfl]
  exact ha
section
variable {P : Program} {w : World} {K : PySem.W.Frag} {mg : Str → Option Value} {base : Heap} {CW CB CK : Addr} {H H' H1 : Hp} {k : Addr} {a a' : Kv342.Abs} {LW LB : Addr} {ws : List Addr} {bs : List (Addr × Addr × Addr)} {σ : L2.St} {F : List Addr} {S : Kv342.State}
def sp_wash_batch (CW CB CK : Addr) : Sp := fun vs H Q _ => ∃ b : Nat, spc CW CB CK [I b] (.wash b) vs H Q
def sp_pack_batch (CW CB CK : Addr) : Sp := fun vs H Q _ => ∃ b : Nat, spc CW CB CK [I b] (.pack b) vs H Q
/-- the sizes' list is new; H0: the heap ahead of it -/
def sp_add_batch (CW CB CK : Addr) : Sp := fun vs H Q _ => ∃ (u : Nat) (l : List Nat) (H0 : Hp) (sz k : Addr) (a : Kv342.Abs) (LW LB : Addr) (ws : List Addr) (bs : List (Addr × Addr × Addr)), vs = [.ref k, I u, .ref sz] ∧ Same H0 H ∧ H0 sz = none ∧ H sz = some (.lst (l.map I)) ∧ Kit CW CB CK H0 k a LW LB ws bs ∧
  Post CW CB CK H0 k (foot k LW LB ws bs) (a.does (.batch u l)).1 (Kv342Neutral.row (a.does (.batch u l)).2) Q
/-- the calls 0 to 8 -/
def isChange : Kv342.Call → Bool
  | .begin_ _ | .warm _ _ | .batch _ _ | .wash _ | .sieve _ _ | .mix _ _ | .heat _ _ _ | .enough _ _ | .pack _ => true
  | _ => false
def sp_answer_change (CW CB CK : Addr) : Sp := fun vs H Q _ => ∃ (k c : Addr) (S : Kv342.State) (F : List Addr) (sl : List Int) (cl : Kv342.Call), vs = [.ref k, .ref c] ∧ IsCall sl cl ∧ isChange cl = true ∧ (S = none → ∃ l, cl = .begin_ l) ∧ H c = some (Ls sl) ∧ KS CW CB CK H k F S ∧
  PostS CW CB CK H k F (Kv342.act S cl).1 (Kv342Neutral.row (Kv342.act S cl).2) Q
theorem sc_answer_change : FnScope ["kitchen", "call", "number"] ["kitchen", "call"] (defScope s_answer_change) := ⟨rfl, rfl, rfl, by decide +kernel, rfl, by decide +kernel, by decide +kernel⟩
theorem cut3 {x y z : Int} {l : List Nat} : cutV ((x :: y :: z :: l.map (fun k => ((k : Nat) : Int))).map V.int) (some 3) none = l.map I := by
  unfold cutV
  rw [HT.sIx_none, show (some (3 : Int)) = some (((3 : Nat)) : Int) from rfl, HT.sIx_nat]
  rw [List.length_map]
  have e : min 3 (x :: y :: z :: l.map (fun k => ((k : Nat) : Int))).length = 3 := Nat.min_eq_left (by simp)
  rw [e, ← List.map_drop]
  show ((l.map (fun k => ((k : Nat) : Int))).map V.int).take _ = _
  rw [← map_I, List.take_of_length_le (by simp)]
theorem ok_answer_change {n : Nat} (hn : 5 ≤ n) (R : Raw K mg "answer_change" s_answer_change ["kitchen", "call"]) (T : Cst mg)
    (D0 : Def P w K mg base 2 "begin_anew" ["kitchen", "limit"] (sp_begin_anew CW CB CK)) (D1 : Def P w K mg base 3 "add_warmth" ["kitchen", "kills", "fades"] (sp_add_warmth CW CB CK)) (D2 : Def P w K mg base 3 "add_batch" ["kitchen", "waste", "sizes"] (sp_add_batch CW CB CK))
    (D3 : Def P w K mg base 2 "wash_batch" ["kitchen", "b"] (sp_wash_batch CW CB CK)) (D4 : Def P w K mg base 4 "sieve_batch" ["kitchen", "b", "m"] (sp_sieve_batch CW CB CK)) (D5 : Def P w K mg base 4 "mix_batches" ["kitchen", "b", "c"] (sp_mix_batches CW CB CK))
    (D6 : Def P w K mg base 5 "heat_batch" ["kitchen", "b", "w", "s"] (sp_heat_batch CW CB CK)) (D7 : Def P w K mg base 5 "heat_enough" ["kitchen", "b", "w"] (sp_heat_enough CW CB CK)) (D8 : Def P w K mg base 3 "pack_batch" ["kitchen", "b"] (sp_pack_batch CW CB CK)) :
    Def P w K mg base (n + 1) "answer_change" ["kitchen", "call"] (sp_answer_change CW CB CK) := by
  refine R.ok sc_answer_change (fun vs H Q E h => ?_) (fun f cdv A outer s H vs Q E hr h => ?_)
  · obtain ⟨k, c, S, F, sl, cl, rfl, _⟩ := h
    rfl
  · obtain ⟨k, c, S, F, sl, cl, rfl, hc, hch, hS, hl, ks, q⟩ := h
    have r2 : Room 2 _ := hr.mono (by omega)
    have r3 : Room 3 _ := hr.mono (by omega)
    have r4 : Room 4 _ := hr.mono (by omega)
    have r5 : Room 5 _ := hr.mono (by omega)
    refine ⟨_, pss_cons (ps_set (i := 2) sc_answer_change.nd rfl (Or.inl rfl) (pe_ix ix_list (pv 1) pe_int (fun _ _ => rfl)))
      (pss_cons (ps_if (pt_cmpR op_eq (pv 2) (pe_cst T.BEGIN) (nomark _)) (pss_one (ps_ret (pe_def D0 r2 (pa_cons (pv 0) (pa_cons (pe_ix ix_list (pv 1) pe_int (fun _ _ => rfl)) pa_nil))))) pss_nil)
      (pss_cons (ps_if (pt_cmpR op_eq (pv 2) (pe_cst T.WARM) (nomark _)) (pss_one (ps_ret (pe_def D1 r3 (pa_cons (pv 0) (pa_cons (pe_ix ix_list (pv 1) pe_int (fun _ _ => rfl)) (pa_cons (pe_ix ix_list (pv 1) pe_int (fun _ _ => rfl)) pa_nil)))))) pss_nil)
      (pss_cons (ps_if (pt_cmpR op_eq (pv 2) (pe_cst T.BATCH) (nomark _)) (pss_one (ps_ret (pe_def D2 r3 (pa_cons (pv 0) (pa_cons (pe_ix ix_list (pv 1) pe_int (fun _ _ => rfl)) (pa_cons (pe_slice sl_list (pv 1) (po_some pe_int) po_none) pa_nil)))))) pss_nil)
      (pss_cons (ps_if (pt_cmpR op_eq (pv 2) (pe_cst T.WASH) (nomark _)) (pss_one (ps_ret (pe_def D3 r2 (pa_cons (pv 0) (pa_cons (pe_ix ix_list (pv 1) pe_int (fun _ _ => rfl)) pa_nil))))) pss_nil)
      (pss_cons (ps_if (pt_cmpR op_eq (pv 2) (pe_cst T.SIEVE) (nomark _)) (pss_one (ps_ret (pe_def D4 r4 (pa_cons (pv 0) (pa_cons (pe_ix ix_list (pv 1) pe_int (fun _ _ => rfl)) (pa_cons (pe_ix ix_list (pv 1) pe_int (fun _ _ => rfl)) pa_nil)))))) pss_nil)
      (pss_cons (ps_if (pt_cmpR op_eq (pv 2) (pe_cst T.MIX) (nomark _)) (pss_one (ps_ret (pe_def D5 r4 (pa_cons (pv 0) (pa_cons (pe_ix ix_list (pv 1) pe_int (fun _ _ => rfl)) (pa_cons (pe_ix ix_list (pv 1) pe_int (fun _ _ => rfl)) pa_nil)))))) pss_nil)
      (pss_cons (ps_if (pt_cmpR op_eq (pv 2) (pe_cst T.HEAT) (nomark _)) (pss_one (ps_ret (pe_def D6 r5 (pa_cons (pv 0) (pa_cons (pe_ix ix_list (pv 1) pe_int (fun _ _ => rfl)) (pa_cons (pe_ix ix_list (pv 1) pe_int (fun _ _ => rfl)) (pa_cons (pe_ix ix_list (pv 1) pe_int (fun _ _ => rfl)) pa_nil))))))) pss_nil)
      (pss_cons (ps_if (pt_cmpR op_eq (pv 2) (pe_cst T.ENOUGH) (nomark _)) (pss_one (ps_ret (pe_def D7 r5 (pa_cons (pv 0) (pa_cons (pe_ix ix_list (pv 1) pe_int (fun _ _ => rfl)) (pa_cons (pe_ix ix_list (pv 1) pe_int (fun _ _ => rfl)) pa_nil)))))) pss_nil)
      (pss_one (ps_ret (pe_def D8 r3 (pa_cons (pv 0) (pa_cons (pe_ix ix_list (pv 1) pe_int (fun _ _ => rfl)) pa_nil))))))))))))), ?_⟩
    have some_ : (∃ l, cl = .begin_ l) ∨ ∃ a LW LB ws bs, S = some a ∧ Kit CW CB CK H k a LW LB ws bs ∧ F = foot k LW LB ws bs := by
      cases S with
      | none => exact .inl (hS rfl)
      | some a => obtain ⟨LW, LB, ws, bs, T, e⟩ := ks; exact .inr ⟨a, LW, LB, ws, bs, rfl, T, e⟩
    cases hc with
    | begin_ l =>
      refine ⟨_, rfl, c, _, _, _, rfl, rfl, SqL.of hl, at_of (j := 0) rfl rfl, ?_⟩
      refine ⟨_, rfl, rfl, _, rfl, iteY ?_⟩
      refine ⟨_, rfl, _, rfl, c, _, _, _, rfl, rfl, SqL.of hl, at_of (j := 1) rfl rfl, ?_⟩
      exact ⟨l, k, S, F, rfl, ks, q⟩
    | warm u v =>
      obtain ⟨l, e⟩ | ⟨a, LW, LB, ws, bs, rfl, KT, rfl⟩ := some_
      · cases e
      refine ⟨_, rfl, c, _, _, _, rfl, rfl, SqL.of hl, at_of (j := 0) rfl rfl, ?_⟩
      repeat refine ⟨_, rfl, rfl, _, rfl, iteN (by decide) ?_⟩
      refine ⟨_, rfl, rfl, _, rfl, iteY ?_⟩
      refine ⟨_, rfl, _, rfl, c, _, _, _, rfl, rfl, SqL.of hl, at_of (j := 1) rfl rfl, _, rfl, c, _, _, _, rfl, rfl, SqL.of hl, at_of (j := 2) rfl rfl, ?_⟩
      exact ⟨u, v, k, a, LW, LB, ws, bs, rfl, KT, q.post⟩
    | batch u l =>
      obtain ⟨l, e⟩ | ⟨a, LW, LB, ws, bs, rfl, KT, rfl⟩ := some_
      · cases e
      refine ⟨_, rfl, c, _, _, _, rfl, rfl, SqL.of hl, at_of (j := 0) rfl rfl, ?_⟩
      repeat refine ⟨_, rfl, rfl, _, rfl, iteN (by decide) ?_⟩
      refine ⟨_, rfl, rfl, _, rfl, iteY ?_⟩
      refine ⟨_, rfl, _, rfl, c, _, _, _, rfl, rfl, SqL.of hl, at_of (j := 1) rfl rfl, _, rfl, _, rfl, c, _, rfl, SqL.of hl, fun r nr => ?_⟩
      rw [cut3]
      exact ⟨u, l, H, r, k, a, LW, LB, ws, bs, rfl, Same.new nr, nr, upd_same, KT, q.post⟩
    | wash u =>
      obtain ⟨l, e⟩ | ⟨a, LW, LB, ws, bs, rfl, KT, rfl⟩ := some_
      · cases e
      refine ⟨_, rfl, c, _, _, _, rfl, rfl, SqL.of hl, at_of (j := 0) rfl rfl, ?_⟩
      repeat refine ⟨_, rfl, rfl, _, rfl, iteN (by decide) ?_⟩
      refine ⟨_, rfl, rfl, _, rfl, iteY ?_⟩
      refine ⟨_, rfl, _, rfl, c, _, _, _, rfl, rfl, SqL.of hl, at_of (j := 1) rfl rfl, ?_⟩
      exact ⟨u, k, a, LW, LB, ws, bs, rfl, KT, q.post⟩
    | sieve u v =>
      obtain ⟨l, e⟩ | ⟨a, LW, LB, ws, bs, rfl, KT, rfl⟩ := some_
      · cases e
      refine ⟨_, rfl, c, _, _, _, rfl, rfl, SqL.of hl, at_of (j := 0) rfl rfl, ?_⟩
      repeat refine ⟨_, rfl, rfl, _, rfl, iteN (by decide) ?_⟩
      refine ⟨_, rfl, rfl, _, rfl, iteY ?_⟩
      refine ⟨_, rfl, _, rfl, c, _, _, _, rfl, rfl, SqL.of hl, at_of (j := 1) rfl rfl, _, rfl, c, _, _, _, rfl, rfl, SqL.of hl, at_of (j := 2) rfl rfl, ?_⟩
      exact ⟨u, v, k, a, LW, LB, ws, bs, rfl, KT, q.post⟩
    | mix u v =>
      obtain ⟨l, e⟩ | ⟨a, LW, LB, ws, bs, rfl, KT, rfl⟩ := some_
      · cases e
      refine ⟨_, rfl, c, _, _, _, rfl, rfl, SqL.of hl, at_of (j := 0) rfl rfl, ?_⟩
      repeat refine ⟨_, rfl, rfl, _, rfl, iteN (by decide) ?_⟩
      refine ⟨_, rfl, rfl, _, rfl, iteY ?_⟩
      refine ⟨_, rfl, _, rfl, c, _, _, _, rfl, rfl, SqL.of hl, at_of (j := 1) rfl rfl, _, rfl, c, _, _, _, rfl, rfl, SqL.of hl, at_of (j := 2) rfl rfl, ?_⟩
      exact ⟨u, v, k, a, LW, LB, ws, bs, rfl, KT, q.post⟩
    | heat u v x =>
      obtain ⟨l, e⟩ | ⟨a, LW, LB, ws, bs, rfl, KT, rfl⟩ := some_
      · cases e
      refine ⟨_, rfl, c, _, _, _, rfl, rfl, SqL.of hl, at_of (j := 0) rfl rfl, ?_⟩
      repeat refine ⟨_, rfl, rfl, _, rfl, iteN (by decide) ?_⟩
      refine ⟨_, rfl, rfl, _, rfl, iteY ?_⟩
      refine ⟨_, rfl, _, rfl, c, _, _, _, rfl, rfl, SqL.of hl, at_of (j := 1) rfl rfl, _, rfl, c, _, _, _, rfl, rfl, SqL.of hl, at_of (j := 2) rfl rfl, _, rfl, c, _, _, _, rfl, rfl, SqL.of hl, at_of (j := 3) rfl rfl, ?_⟩
      exact ⟨u, v, x, k, a, LW, LB, ws, bs, rfl, KT, q.post⟩
    | enough u v =>
      obtain ⟨l, e⟩ | ⟨a, LW, LB, ws, bs, rfl, KT, rfl⟩ := some_
      · cases e
      refine ⟨_, rfl, c, _, _, _, rfl, rfl, SqL.of hl, at_of (j := 0) rfl rfl, ?_⟩
      repeat refine ⟨_, rfl, rfl, _, rfl, iteN (by decide) ?_⟩
      refine ⟨_, rfl, rfl, _, rfl, iteY ?_⟩
      refine ⟨_, rfl, _, rfl, c, _, _, _, rfl, rfl, SqL.of hl, at_of (j := 1) rfl rfl, _, rfl, c, _, _, _, rfl, rfl, SqL.of hl, at_of (j := 2) rfl rfl, ?_⟩
      exact ⟨u, v, k, a, LW, LB, ws, bs, rfl, KT, q.post⟩
    | pack u =>
      obtain ⟨l, e⟩ | ⟨a, LW, LB, ws, bs, rfl, KT, rfl⟩ := some_
      · cases e
      refine ⟨_, rfl, c, _, _, _, rfl, rfl, SqL.of hl, at_of (j := 0) rfl rfl, ?_⟩
      repeat refine ⟨_, rfl, rfl, _, rfl, iteN (by decide) ?_⟩
      refine ⟨_, rfl, _, rfl, c, _, _, _, rfl, rfl, SqL.of hl, at_of (j := 1) rfl rfl, ?_⟩
      exact ⟨u, k, a, LW, LB, ws, bs, rfl, KT, q.post⟩
    | _ => cases hch
end
end Bl
end
section
set_option Elab.async false
set_option linter.all false
set_option maxRecDepth 100000
set_option maxHeartbeats 2000000
namespace Bl
open PySem PySem.Spec PyProof.Rows L2
section
variable {P : Program} {w : World} {K : PySem.W.Frag} {mg : Str → Option Value} {base : Heap} {CW CB CK : Addr} {H H' H1 : Hp} {k : Addr} {a a' : Kv342.Abs} {LW LB : Addr} {ws : List Addr} {bs : List (Addr × Addr × Addr)} {σ : L2.St} {F : List Addr} {S : Kv342.State}
theorem sc_wash_batch : FnScope ["kitchen", "b", "batch", "waste"] ["kitchen", "b"] (defScope s_wash_batch) := ⟨rfl, rfl, rfl, by decide +kernel, rfl, by decide +kernel, by decide +kernel⟩
theorem ok_wash_batch (R : Raw K mg "wash_batch" s_wash_batch ["kitchen", "b"]) (T : Cst mg) (C : Cl K CW CB CK) (Dhb : Def P w K mg base 1 "has_batch" ["kitchen", "b"] (sp_has_batch CW CB CK)) : Def P w K mg base 2 "wash_batch" ["kitchen", "b"] (sp_wash_batch CW CB CK) := by
  refine R.ok sc_wash_batch (fun vs H Q E h => ?_) (fun f cdv A outer s H vs Q E hr h => ?_)
  · obtain ⟨b, k, a, LW, LB, ws, bs, rfl, _⟩ := h
    rfl
  · obtain ⟨b, k, a, LW, LB, ws, bs, rfl, KT, q⟩ := h
    refine ⟨_, pss_cons (ps_if (pt_not (pt_val (pe_def Dhb hr (pa_cons (pv 0) (pa_cons (pv 1) pa_nil))))) (pss_one (ps_ret (pe_lst (pa_cons (pe_cst T.NO_SUCH) pa_nil)))) pss_nil)
      (pss_cons (ps_set (i := 2) sc_wash_batch.nd rfl (Or.inl rfl) (pe_ix ix_list (pe_fld (pv 0) rfl) (pv 1) (fun _ _ => rfl)))
      (pss_cons (ps_if (pt_val (pe_fld (pv 2) rfl)) (pss_one (ps_ret (pe_lst (pa_cons (pe_cst T.GONE_OR_UNWASHED) pa_nil)))) pss_nil)
      (pss_cons (ps_if (pt_cmpR op_eq (pe_fld (pv 2) rfl) pe_int (nomark _)) (pss_one (ps_ret (pe_lst (pa_cons (pe_cst T.NO_WASTE) pa_nil)))) pss_nil)
      (pss_cons (ps_set (i := 3) sc_wash_batch.nd rfl (Or.inl rfl) (pe_fld (pv 2) rfl))
      (pss_cons (ps_fld (pv 2) pe_int rfl)
      (pss_cons (ps_fldaug (pv 0) (pv 3) in_add)
      (pss_one (ps_ret (pe_lst (pa_cons (pv 3) pa_nil)))))))))), ?_⟩
    refine rd_hb KT rfl rfl (ite_nd (fun hb => ?_) fun hb => ?_)
    · refine ⟨one_ok, fun p hp => ?_⟩
      have e : a.does (.wash b) = (a, Kv342.say (-2)) := by show (if a.has b = false then _ else _) = _; rw [has_f hb, if_pos rfl]
      rw [e] at q
      exact q.new KT (Same.refl H) hp
    obtain ⟨x, hx⟩ : ∃ x, a.batches[b]? = some x := ⟨_, List.getElem?_eq_getElem hb⟩
    obtain ⟨p, sz, rt, hp, B⟩ := KT.ba b x hx
    obtain ⟨dx, hpx⟩ := B.at_
    obtain ⟨dk, hk⟩ := KT.kit
    have e0 : a.does (.wash b) = (if x.gone then (a, Kv342.say (-16)) else if x.waste = 0 then (a, Kv342.say (-17)) else ({ (a.set_ b fun x => { x with waste := 0 }) with washed := a.washed + x.waste }, Kv342.say (x.waste : Nat))) := by
      show (if a.has b = false then _ else _) = _
      rw [has_t hb, if_neg (by decide), batch_at hx]
    rw [e0] at q
    refine rd_bat C KT rfl rfl hp ?_
    refine ⟨_, rfl, p, CB, dx, _, _, rfl, hpx, C.b, C.gone, rfl, _, rfl, ite_b (fun hg => ?_) fun hg => ?_⟩
    · refine ⟨one_ok, fun r hr' => ?_⟩
      rw [if_pos hg] at q
      exact q.new KT (Same.refl H) hr'
    rw [if_neg (by rw [hg]; decide)] at q
    refine ⟨_, rfl, p, CB, dx, _, _, rfl, hpx, C.b, C.waste, rfl, rfl, _, rfl, ite_d (fun hw => ?_) fun hw => ?_⟩
    · refine ⟨one_ok, fun r hr' => ?_⟩
      rw [if_pos (eqI_iff.mp (show I x.waste = I 0 from hw))] at q
      exact q.new KT (Same.refl H) hr'
    rw [if_neg (fun e => hw (show I x.waste = I 0 by rw [e]))] at q
    refine ⟨_, rfl, p, CB, dx, _, _, rfl, hpx, C.b, C.waste, rfl, ?_⟩
    refine ⟨_, rfl, p, CB, dx, _, rfl, hpx, C.b, C.waste, (by show 6 < 1000; decide), ?_⟩
    let H1 : Hp := upd H p (.ins CB dx (putF "waste" (V.int 0) (bf x sz rt)))
    have k1 : ∀ q o, H q = some o → q ≠ p → H1 q = some o := fun q o e h => by show upd H p _ q = _; rw [upd_ne h]; exact e
    have KT1 := KT.setB (H' := H1) (f := fun x => { x with waste := 0 }) hx hp rfl rfl (by show upd H p _ p = _; rw [upd_same]; rfl) k1
    have kp : k ≠ p := ne_of hk hpx kf_bf
    have hk1 : H1 k = some (.ins CK dk (kf true a LW LB)) := k1 _ _ hk kp
    refine ⟨_, rfl, k, CK, dk, _, _, rfl, hk1, C.k, C.washed, rfl, _, rfl, _, _, rfl, rfl, dk, _, hk1, (by show 8 < 1000; decide), ?_⟩
    have KT2 := KT1.setN (H' := upd H1 k (.ins CK dk (putF "washed" (V.int (((a.washed : Nat) : Int) + ((x.waste : Nat) : Int))) (kf true a LW LB)))) (f := a.firsts) (c := a.came) (w := a.washed + x.waste) (p := a.packed) KT.ok.f ⟨dk, by rw [upd_same]; rfl⟩ (fun q o e h => by rw [upd_ne h]; exact e)
    refine ⟨_, rfl, one_ok, fun r hr' => ?_⟩
    refine q.chg KT2 (fun u hu => .inl hu) (fun u o e hu => ?_) (fun u o e => ?_) hr'
    · have n1 : u ≠ k := fun e' => hu (e' ▸ foot_k)
      have n2 : u ≠ p := fun e' => hu (e' ▸ mem_foot hp)
      rw [upd_ne n1]
      exact k1 _ _ e n2
    · by_cases e1 : u = k
      · exact ⟨_, by rw [e1]; exact upd_same⟩
      · rw [upd_ne e1]
        by_cases e2 : u = p
        · exact ⟨_, by rw [e2]; exact upd_same⟩
        · exact ⟨_, k1 _ _ e e2⟩
theorem sc_pack_batch : FnScope ["kitchen", "b", "batch"] ["kitchen", "b"] (defScope s_pack_batch) := ⟨rfl, rfl, rfl, by decide +kernel, rfl, by decide +kernel, by decide +kernel⟩
theorem ok_pack_batch (R : Raw K mg "pack_batch" s_pack_batch ["kitchen", "b"]) (T : Cst mg) (C : Cl K CW CB CK) (Dhb : Def P w K mg base 1 "has_batch" ["kitchen", "b"] (sp_has_batch CW CB CK)) (Ddo : Def P w K mg base 2 "is_done" ["kitchen", "batch"] (sp_is_done CW CB CK)) (Dkg : Def P w K mg base 1 "kilograms" ["batch"] (sp_kilograms CB)) :
    Def P w K mg base 3 "pack_batch" ["kitchen", "b"] (sp_pack_batch CW CB CK) := by
  refine R.ok sc_pack_batch (fun vs H Q E h => ?_) (fun f cdv A outer s H vs Q E hr h => ?_)
  · obtain ⟨b, k, a, LW, LB, ws, bs, rfl, _⟩ := h
    rfl
  · obtain ⟨b, k, a, LW, LB, ws, bs, rfl, KT, q⟩ := h
    have hr1 : Room 1 _ := hr.mono (by decide)
    refine ⟨_, pss_cons (ps_if (pt_not (pt_val (pe_def Dhb hr1 (pa_cons (pv 0) (pa_cons (pv 1) pa_nil))))) (pss_one (ps_ret (pe_lst (pa_cons (pe_cst T.NO_SUCH) pa_nil)))) pss_nil)
      (pss_cons (ps_set (i := 2) sc_pack_batch.nd rfl (Or.inl rfl) (pe_ix ix_list (pe_fld (pv 0) rfl) (pv 1) (fun _ _ => rfl)))
      (pss_cons (ps_if (pt_val (pe_fld (pv 2) rfl)) (pss_one (ps_ret (pe_lst (pa_cons (pe_cst T.GONE_OR_UNWASHED) pa_nil)))) pss_nil)
      (pss_cons (ps_if (pt_not (pt_val (pe_def Ddo hr (pa_cons (pv 0) (pa_cons (pv 2) pa_nil))))) (pss_one (ps_ret (pe_lst (pa_cons (pe_cst T.NOT_DONE) pa_nil)))) pss_nil)
      (pss_cons (ps_fld (pv 2) pe_bl rfl)
      (pss_cons (ps_fldaug (pv 0) (pe_def Dkg hr1 (pa_cons (pv 2) pa_nil)) in_add)
      (pss_one (ps_ret (pe_lst (pa_cons (pe_def Dkg hr1 (pa_cons (pv 2) pa_nil)) pa_nil))))))))), ?_⟩
    refine rd_hb KT rfl rfl (ite_nd (fun hb => ?_) fun hb => ?_)
    · refine ⟨one_ok, fun p hp => ?_⟩
      have e : a.does (.pack b) = (a, Kv342.say (-2)) := by show (if a.has b = false then _ else _) = _; rw [has_f hb, if_pos rfl]
      rw [e] at q
      exact q.new KT (Same.refl H) hp
    obtain ⟨x, hx⟩ : ∃ x, a.batches[b]? = some x := ⟨_, List.getElem?_eq_getElem hb⟩
    obtain ⟨p, sz, rt, hp, B⟩ := KT.ba b x hx
    obtain ⟨dx, hpx⟩ := B.at_
    obtain ⟨dk, hk⟩ := KT.kit
    have e0 : a.does (.pack b) = (if x.gone then (a, Kv342.say (-16)) else if x.waste ≠ 0 ∨ a.limit < x.alive then (a, Kv342.say (-74)) else ({ (a.set_ b fun x => { x with gone := true }) with packed := a.packed + x.kg }, Kv342.say (x.kg : Nat))) := by
      show (if a.has b = false then _ else _) = _
      rw [has_t hb, if_neg (by decide), batch_at hx]
    rw [e0] at q
    refine rd_bat C KT rfl rfl hp ?_
    refine ⟨_, rfl, p, CB, dx, _, _, rfl, hpx, C.b, C.gone, rfl, _, rfl, ite_b (fun hg => ?_) fun hg => ?_⟩
    · refine ⟨one_ok, fun r hr' => ?_⟩
      rw [if_pos hg] at q
      exact q.new KT (Same.refl H) hr'
    rw [if_neg (by rw [hg]; decide)] at q
    refine ⟨_, rfl, _, rfl, k, a, p, sz, rt, x, rfl, ⟨LW, LB, ws, bs, KT⟩, B, _, rfl, ite_nd (fun hd => ?_) fun hd => ?_⟩
    · refine ⟨one_ok, fun r hr' => ?_⟩
      rw [if_pos (by omega)] at q
      exact q.new KT (Same.refl H) hr'
    rw [if_neg (by omega)] at q
    refine ⟨_, rfl, p, CB, dx, _, rfl, hpx, C.b, C.gone, (by show 6 < 1000; decide), ?_⟩
    let H1 : Hp := upd H p (.ins CB dx (putF "gone" (.bl true) (bf x sz rt)))
    have k1 : ∀ q o, H q = some o → q ≠ p → H1 q = some o := fun q o e h => by show upd H p _ q = _; rw [upd_ne h]; exact e
    have KT1 := KT.setB (H' := H1) (f := fun x => { x with gone := true }) hx hp rfl rfl (by show upd H p _ p = _; rw [upd_same]; rfl) k1
    have kp : k ≠ p := ne_of hk hpx kf_bf
    have hk1 : H1 k = some (.ins CK dk (kf true a LW LB)) := k1 _ _ hk kp
    have lp : ∀ q xs, H q = some (.lst xs) → H1 q = some (.lst xs) := fun q xs e => k1 q _ e (ne_of e hpx lst_ins)
    have B1 : Bat CB H1 p sz rt { x with gone := true } := ⟨⟨dx, by show upd H p _ p = _; rw [upd_same]; rfl⟩, lp _ _ B.sz, lp _ _ B.rt⟩
    refine ⟨_, rfl, k, CK, dk, _, _, rfl, hk1, C.k, C.packed, rfl, _, rfl, p, sz, rt, _, rfl, B1, _, _, rfl, rfl, dk, _, hk1, (by show 8 < 1000; decide), ?_⟩
    let H2 : Hp := upd H1 k (.ins CK dk (putF "packed" (V.int (((a.packed : Nat) : Int) + ((x.kg : Nat) : Int))) (kf true a LW LB)))
    have k2 : ∀ q o, H1 q = some o → q ≠ k → H2 q = some o := fun q o e h => by show upd H1 k _ q = _; rw [upd_ne h]; exact e
    have KT2 := KT1.setN (H' := H2) (f := a.firsts) (c := a.came) (w := a.washed) (p := a.packed + x.kg) KT.ok.f ⟨dk, by show upd H1 k _ k = _; rw [upd_same]; rfl⟩ k2
    have l2 : ∀ q xs, H1 q = some (.lst xs) → H2 q = some (.lst xs) := fun q xs e => k2 q _ e (ne_of e hk1 lst_ins)
    have B2 : Bat CB H2 p sz rt { x with gone := true } := ⟨let ⟨d, h⟩ := B1.at_; ⟨d, k2 _ _ h (Ne.symm kp)⟩, l2 _ _ B1.sz, l2 _ _ B1.rt⟩
    refine ⟨_, rfl, p, sz, rt, _, rfl, B2, one_ok, fun r hr' => ?_⟩
    refine q.chg KT2 (fun u hu => .inl hu) (fun u o e hu => ?_) (fun u o e => ?_) hr'
    · have n1 : u ≠ k := fun e' => hu (e' ▸ foot_k)
      have n2 : u ≠ p := fun e' => hu (e' ▸ mem_foot hp)
      exact k2 _ _ (k1 _ _ e n2) n1
    · by_cases e1 : u = k
      · exact ⟨_, by rw [e1]; exact upd_same⟩
      · by_cases e2 : u = p
        · exact ⟨_, by rw [e2]; exact k2 _ _ upd_same (Ne.symm kp)⟩
        · exact ⟨_, k2 _ _ (k1 _ _ e e2) e1⟩
theorem okSizes_t {l : List Nat} (h : okSizes l = true) : l.length = 5 ∧ (∀ n ∈ l, n ≤ 10000) ∧ 0 < l.sum := by
  unfold okSizes at h
  rw [Bool.and_eq_true, Bool.and_eq_true, decide_eq_true_eq, decide_eq_true_eq, List.all_eq_true] at h
  exact ⟨h.1.1, fun n hn => by simpa using h.1.2 n hn, h.2⟩
theorem okSizes_f {l : List Nat} (h : okSizes l = false) : l.length ≠ 5 ∨ l.any (fun n => decide (10000 < n)) = true ∨ l.sum = 0 := by
  by_cases h1 : l.length = 5
  · by_cases h2 : l.any (fun n => decide (10000 < n)) = true
    · exact .inr (.inl h2)
    · by_cases h3 : l.sum = 0
      · exact .inr (.inr h3)
      · exfalso
        have : okSizes l = true := by
          unfold okSizes
          rw [Bool.and_eq_true, Bool.and_eq_true, decide_eq_true_eq, decide_eq_true_eq, List.all_eq_true]
          refine ⟨⟨h1, fun n hn => ?_⟩, by omega⟩
          by_cases hn2 : n ≤ 10000
          · exact decide_eq_true hn2
          · exact absurd (List.any_eq_true.mpr ⟨n, hn, decide_eq_true (by omega)⟩) h2
        rw [h] at this
        cases this
  · exact .inl h1
theorem sc_add_batch : FnScope ["kitchen", "waste", "sizes", "first"] ["kitchen", "waste", "sizes"] (defScope s_add_batch) := ⟨rfl, rfl, rfl, by decide +kernel, rfl, by decide +kernel, by decide +kernel⟩
theorem ok_add_batch (R : Raw K mg "add_batch" s_add_batch ["kitchen", "waste", "sizes"]) (T : Cst mg) (C : Cl K CW CB CK) (Dsz : Def P w K mg base 1 "are_sizes" ["sizes"] sp_are_sizes) (DB : Ini P w K mg base 1 "Batch" CB ["self", "waste", "sizes", "alive", "green", "roots"] (sp_Batch CB)) :
    Def P w K mg base 3 "add_batch" ["kitchen", "waste", "sizes"] (sp_add_batch CW CB CK) := by
  refine R.ok sc_add_batch (fun vs H Q E h => ?_) (fun f cdv A outer s H vs Q E hr h => ?_)
  · obtain ⟨u, l, H0, sz, k, a, LW, LB, ws, bs, rfl, _⟩ := h
    rfl
  · obtain ⟨u, l, H0, sz, k, a, LW, LB, ws, bs, rfl, s0, nsz, hsz, KT0, q⟩ := h
    have hr1 : Room 1 _ := hr.mono (by decide)
    refine ⟨_, pss_cons (ps_if (PW.pt (pw_or (pt_not (pt_val (pe_def Dsz hr1 (pa_cons (pv 2) pa_nil)))) (pw_or1 (pt_cmpR op_gt (pv 1) (pe_cst T.MOST_KILOGRAMS) (nomark _))))) (pss_one (ps_ret (pe_lst (pa_cons (pe_cst T.OUT_OF_RANGE) pa_nil)))) pss_nil)
      (pss_cons (ps_if (PW.pt (pw_or (pt_cmpR op_eq (pe_fld (pv 0) rfl) (pe_cst T.MOST_FIRSTS) (nomark _)) (pw_or1 (pt_cmpR op_eq (pe_callB call_len_seq (by rfl) T.len PySem.boot_len (pa_cons (pe_fld (pv 0) rfl) pa_nil)) (pe_cst T.MOST_BATCHES) (nomark _))))) (pss_one (ps_ret (pe_lst (pa_cons (pe_cst T.TOO_MANY) pa_nil)))) pss_nil)
      (pss_cons (ps_set (i := 3) sc_add_batch.nd rfl (Or.inl rfl) (pe_fld (pv 0) rfl))
      (pss_cons (ps_fld (pv 0) (pe_op op_add (pv 3) pe_int) rfl)
      (pss_cons (ps_expr (pe_bm PySem.F.plainAttrs_list PySem.F.slot_list_append PySem.F.type_list_append mt_append (pe_fld (pv 0) rfl) (pa_cons (pe_new DB hr (pa_cons (pv 1) (pa_cons (pv 2) (pa_cons (pe_cst T.MILLION) (pa_cons (pe_cst T.MILLION) (pa_cons (pe_lst (pa_cons (pv 3) pa_nil)) pa_nil)))))) pa_nil)))
      (pss_cons (ps_fldaug (pv 0) (pe_op op_add (pe_callB (cr_sum rfl) (by rfl) T.sum PyProof.Rows.boot_sum (pa_cons (pv 2) pa_nil)) (pv 1)) in_add)
      (pss_one (ps_ret (pe_lst (pa_cons (pe_op op_sub (pe_callB call_len_seq (by rfl) T.len PySem.boot_len (pa_cons (pe_fld (pv 0) rfl) pa_nil)) pe_int) (pa_cons (pv 3) pa_nil)))))))))), ?_⟩
    have e0 : a.does (.batch u l) = (if l.length ≠ 5 ∨ l.any (fun n => decide (10000 < n)) = true ∨ l.sum = 0 ∨ 10000 < u then (a, Kv342.say (-22)) else if 12 ≤ a.firsts ∨ 40 ≤ a.batches.length then (a, Kv342.say (-28)) else ({ a with batches := a.batches ++ [⟨l, u, Kv342.MILLION, Kv342.MILLION, 2 ^ a.firsts, 0, false⟩], came := a.came + l.sum + u, firsts := a.firsts + 1 }, ⟨(a.batches.length : Nat), [a.firsts]⟩)) := rfl
    rw [e0] at q
    have bad : (l.length ≠ 5 ∨ l.any (fun n => decide (10000 < n)) = true ∨ l.sum = 0 ∨ 10000 < u) → ∀ p, H p = none → Q (.ref p) (upd H p (.lst [V.int (-22)])) := fun hc p hp => by
      rw [if_pos hc] at q
      exact q.new KT0 s0 hp
    refine ⟨_, rfl, sz, l, rfl, hsz, _, rfl, ite_nb (fun ho => iteT ⟨one_ok, bad ?_⟩) fun ho => ?_⟩
    · rcases okSizes_f ho with h | h | h
      · exact .inl h
      · exact .inr (.inl h)
      · exact .inr (.inr (.inl h))
    refine ⟨_, rfl, _, _, rfl, rfl, _, rfl, ite_d (fun hc => ⟨one_ok, bad (.inr (.inr (.inr (by omega))))⟩) fun hu => ?_⟩
    obtain ⟨h5, hall, hpos⟩ := okSizes_t ho
    have hany : ¬ l.any (fun n => decide (10000 < n)) = true := fun e => by
      obtain ⟨n, hn, h⟩ := List.any_eq_true.mp e
      have h1 := hall n hn
      have h2 := of_decide_eq_true h
      omega
    rw [if_neg (by
      rintro (h | h | h | h)
      · exact h h5
      · exact hany h
      · omega
      · omega)] at q
    have KT := KT0.same s0
    obtain ⟨dk, hk⟩ := KT.kit
    have hlen : (bs.map fun b => V.ref b.1).length = a.batches.length := by rw [List.length_map, KT.bl]
    have many : (12 ≤ a.firsts ∨ 40 ≤ a.batches.length) → ∀ p, H p = none → Q (.ref p) (upd H p (.lst [V.int (-28)])) := fun hc p hp => by
      rw [if_pos hc] at q
      exact q.new KT0 s0 hp
    have hf12 := KT.ok.f
    have h40 := KT.ok.bl
    refine ⟨_, rfl, k, CK, dk, _, _, rfl, hk, C.k, C.firsts, rfl, rfl, _, rfl, ite_d (fun h => iteT ⟨one_ok, many (.inl ?_)⟩) fun hf => ?_⟩
    · have : a.firsts = 12 := eqI_iff.mp (show I a.firsts = I 12 from h)
      omega
    have hf : a.firsts ≠ 12 := fun e => hf (show I a.firsts = I 12 by rw [e])
    refine ⟨_, rfl, k, CK, dk, _, _, rfl, hk, C.k, C.batches, rfl, LB, _, rfl, .inl (SqL.of KT.lb), rfl, _, rfl, ?_⟩
    rw [hlen]
    refine ite_d (fun h => ⟨one_ok, many (.inr ?_)⟩) fun hl => ?_
    · have : a.batches.length = 40 := eqI_iff.mp (show I a.batches.length = I 40 from h)
      omega
    have hl : a.batches.length ≠ 40 := fun e => hl (show I a.batches.length = I 40 by rw [e])
    rw [if_neg (by omega)] at q
    -- first = kitchen.firsts; kitchen.firsts = first + 1
    refine ⟨_, rfl, k, CK, dk, _, _, rfl, hk, C.k, C.firsts, rfl, ?_⟩
    refine ⟨_, rfl, _, _, rfl, rfl, _, rfl, k, CK, dk, _, rfl, hk, C.k, C.firsts, (by show 8 < 1000; decide), ?_⟩
    let H1 : Hp := upd H k (.ins CK dk (putF "firsts" (V.int (((a.firsts : Nat) : Int) + 1)) (kf true a LW LB)))
    have k1 : ∀ q o, H q = some o → q ≠ k → H1 q = some o := fun q o e h => by show upd H k _ q = _; rw [upd_ne h]; exact e
    have KT1 := KT.setN (H' := H1) (f := a.firsts + 1) (c := a.came) (w := a.washed) (p := a.packed) (by omega) ⟨dk, by show upd H k _ k = _; rw [upd_same]; rfl⟩ k1
    obtain ⟨dk1, hk1⟩ := KT1.kit
    -- the batch is made
    refine ⟨_, rfl, k, CK, dk1, _, _, rfl, hk1, C.k, C.batches, rfl, .inl ⟨rfl, _, SqL.of KT1.lb⟩, _, rfl, _, rfl, _, rfl, one_ok, fun r nr => ?_⟩
    intro p dp np ndp nep
    have s2 := Same.new (o := .lst [I a.firsts]) nr
    have s3 := made_same (C := CB) (fs := bf ⟨l, u, Kv342.MILLION, Kv342.MILLION, 2 ^ a.firsts, 0, false⟩ sz r) np ndp
    refine ⟨p, dp, sz, r, ⟨l, u, Kv342.MILLION, Kv342.MILLION, 2 ^ a.firsts, 0, false⟩, rfl, rfl, upd_same, rfl, ?_⟩
    have s23 := s2.trans s3
    have KT3 := KT1.same s23
    have zk : sz ≠ k := ne_of hsz hk lst_ins
    have nr1 : H1 r = none := nr
    have np1 : H1 p = none := s2.free np
    have rk : r ≠ k := fun e => by
      rw [e, hk1] at nr1
      cases nr1
    have pk : p ≠ k := fun e => by
      rw [e, hk1] at np1
      cases np1
    have up1 : ∀ q, q ≠ k → H1 q = H q := fun q h => by show upd H k _ q = _; rw [upd_ne h]
    have nr0 : H r = none := (up1 r rk).symm.trans nr1
    have np0 : H p = none := (up1 p pk).symm.trans np1
    have B3 : Bat CB _ p sz r ⟨l, u, Kv342.MILLION, Kv342.MILLION, 2 ^ a.firsts, 0, false⟩ := ⟨⟨dp, upd_same⟩, s23 _ _ (k1 _ _ hsz zk), by rw [roots_first (by omega)]; exact s3 _ _ upd_same⟩
    have o3 : BatOk ⟨l, u, Kv342.MILLION, Kv342.MILLION, 2 ^ a.firsts, 0, false⟩ := ⟨h5, hpos, by rw [roots_first (by omega)]; exact List.cons_ne_nil _ _⟩
    obtain ⟨KT4, B4⟩ := KT3.app B3 o3 (by show a.batches.length < 40; omega) (kg_up (b := 0) (five_le h5 hall) (Nat.zero_le _) (Nat.le_refl _)) (KT.fresh np0)
    refine ⟨LB, _, _, rfl, rfl, KT3.lb, (by rw [hlen, sizeLine_eq]; omega), ?_⟩
    obtain ⟨dk4, hk4⟩ := KT4.kit
    -- kitchen.came += sum(sizes) + waste
    refine ⟨_, rfl, k, CK, dk4, _, _, rfl, hk4, C.k, C.came, rfl, _, rfl, sz, l.map (fun k => ((k : Nat) : Int)), rfl, SqL.of (by rw [← map_I]; exact B4.sz), _, rfl, _, _, rfl, rfl, _, _, rfl, rfl, dk4, _, hk4, (by show 8 < 1000; decide), ?_⟩
    rw [sum_ints]
    let H4 : Hp := upd (upd (upd (upd (upd H1 r (.lst [I a.firsts])) dp (.own p)) p (.ins CB dp [])) p (.ins CB dp (bf ⟨l, u, Kv342.MILLION, Kv342.MILLION, 2 ^ a.firsts, 0, false⟩ sz r))) LB (.lst ((bs.map fun b => V.ref b.1) ++ [V.ref p]))
    have KT5 := KT4.setN (H' := upd H4 k (.ins CK dk4 (putF "came" (V.int (((a.came : Nat) : Int) + (((l.sum : Nat) : Int) + ((u : Nat) : Int)))) (kf true { a with firsts := a.firsts + 1 } LW LB)))) (f := a.firsts + 1) (c := a.came + l.sum + u) (w := a.washed) (p := a.packed) (by omega) ⟨dk4, by
      rw [upd_same]
      have e : ((a.came : Nat) : Int) + (((l.sum : Nat) : Int) + ((u : Nat) : Int)) = ((a.came + l.sum + u : Nat) : Int) := by omega
      rw [e]
      rfl⟩ (fun q o e h => by rw [upd_ne h]; exact e)
    obtain ⟨dk5, hk5⟩ := KT5.kit
    refine ⟨_, rfl, k, CK, dk5, _, _, rfl, hk5, C.k, C.batches, rfl, LB, _, rfl, .inl (SqL.of KT5.lb), _, _, rfl, rfl, _, rfl, (by show 2 ≤ sizeLine; decide), fun v hv' => ?_⟩
    have elen : (((bs ++ [(p, sz, r)]).map fun b => V.ref b.1).length : Int) - 1 = ((a.batches.length : Nat) : Int) := by
      rw [List.length_map, List.length_append, KT.bl]
      show ((a.batches.length + 1 : Nat) : Int) - 1 = _
      omega
    show Q (.ref v) (upd _ v (.lst [V.int ((((bs ++ [(p, sz, r)]).map fun b => V.ref b.1).length : Int) - 1), I a.firsts]))
    rw [elen]
    refine q.chg KT5 (fun u hu => ?_) (fun u o e hu => ?_) (fun u o e => ?_) hv'
    · rcases foot_add hu with h | h | h | h
      · exact .inl h
      · exact .inr (h ▸ s0.free np0)
      · exact .inr (h ▸ nsz)
      · exact .inr (h ▸ s0.free nr0)
    · have n1 : u ≠ k := fun e => hu (e ▸ foot_k)
      have n2 : u ≠ LB := fun e => hu (e ▸ foot_LB)
      rw [upd_ne n1, upd_ne n2]
      exact s23 _ _ (k1 _ _ (s0 _ _ e) n1)
    · by_cases e1 : u = k
      · exact ⟨_, by rw [e1]; exact upd_same⟩
      · rw [upd_ne e1]
        by_cases e2 : u = LB
        · exact ⟨_, by rw [e2]; exact upd_same⟩
        · exact ⟨_, by rw [upd_ne e2]; exact s23 _ _ (k1 _ _ (s0 _ _ e) e1)⟩
end
end Bl
end
section
set_option Elab.async false
set_option linter.all false
set_option maxRecDepth 100000
set_option maxHeartbeats 2000000
namespace Bl
open PySem PySem.Spec PyProof.Rows L2
section
variable {P : Program} {w : World} {K : PySem.W.Frag} {mg : Str → Option Value} {base : Heap} {CW CB CK : Addr} {H H' H1 : Hp} {k : Addr} {a a' : Kv342.Abs} {LW LB : Addr} {ws : List Addr} {bs : List (Addr × Addr × Addr)} {σ : L2.St} {F : List Addr} {S : Kv342.State}
theorem sc_tell_hotter : FnScope ["kitchen", "v", "w"] ["kitchen", "v", "w"] (defScope s_tell_hotter) := ⟨rfl, rfl, rfl, by decide +kernel, rfl, by decide +kernel, by decide +kernel⟩
def sp_tell_hotter (CW CB CK : Addr) : Sp := fun vs H Q _ => ∃ u v : Nat, spc CW CB CK [I u, I v] (.hotter u v) vs H Q
theorem ok_tell_hotter (R : Raw K mg "tell_hotter" s_tell_hotter ["kitchen", "v", "w"]) (T : Cst mg) (C : Cl K CW CB CK) (Dhw : Def P w K mg base 1 "has_warmth" ["kitchen", "w"] (sp_has_warmth CW CB CK)) : Def P w K mg base 2 "tell_hotter" ["kitchen", "v", "w"] (sp_tell_hotter CW CB CK) := by
  refine R.ok sc_tell_hotter (fun vs H Q E h => ?_) (fun f cdv A outer s H vs Q E hr h => ?_)
  · obtain ⟨u, v, k, a, LW, LB, ws, bs, rfl, _⟩ := h
    rfl
  · obtain ⟨u, v, k, a, LW, LB, ws, bs, rfl, KT, q⟩ := h
    refine ⟨_, pss_cons (ps_if (PW.pt (pw_or (pt_not (pt_val (pe_def Dhw hr (pa_cons (pv 0) (pa_cons (pv 1) pa_nil))))) (pw_or1 (pt_not (pt_val (pe_def Dhw hr (pa_cons (pv 0) (pa_cons (pv 2) pa_nil)))))))) (pss_one (ps_ret (pe_lst (pa_cons (pe_cst T.NO_SUCH) pa_nil)))) pss_nil)
      (pss_one (ps_ret (pe_lst (pa_cons (pe_ifExp (pt_cmpR op_gt (pe_fld (pe_ix ix_list (pe_fld (pv 0) rfl) (pv 1) (fun _ _ => rfl)) rfl) (pe_fld (pe_ix ix_list (pe_fld (pv 0) rfl) (pv 2) (fun _ _ => rfl)) rfl) (nomark _)) pe_int pe_int) pa_nil)))), ?_⟩
    have no : (a.hasW u = false ∨ a.hasW v = false) → ∀ p, H p = none → Q (.ref p) (upd H p (.lst [V.int (-2)])) := fun hn p hp => by
      have e : a.does (.hotter u v) = (a, Kv342.say (-2)) := if_pos hn
      rw [e] at q
      exact q.new KT (Same.refl H) hp
    refine rd_hw KT rfl rfl (ite_nd (fun hu => iteT ⟨one_ok, no (.inl (hasW_f hu))⟩) fun hu => rd_hw KT rfl rfl (ite_nd (fun hv => ⟨one_ok, no (.inr (hasW_f hv))⟩) fun hv => ?_))
    obtain ⟨x, hx⟩ : ∃ x, a.warms[u]? = some x := ⟨_, List.getElem?_eq_getElem hu⟩
    obtain ⟨y, hy⟩ : ∃ y, a.warms[v]? = some y := ⟨_, List.getElem?_eq_getElem hv⟩
    have e : a.does (.hotter u v) = (a, Kv342.say (Kv342.bit (decide (y.kills < x.kills)) : Nat)) := by
      show (if a.hasW u = false ∨ a.hasW v = false then _ else _) = _
      rw [if_neg (by rw [hasW_t hu, hasW_t hv]; decide), warm_at hx, warm_at hy]
    rw [e] at q
    obtain ⟨dk, hk⟩ := KT.kit
    obtain ⟨p, dp, hp, hpx⟩ := KT.wa u x hx
    obtain ⟨p', dp', hp', hpy⟩ := KT.wa v y hy
    refine ⟨_, rfl, k, CK, dk, _, _, rfl, hk, C.k, C.warmths, rfl, _, rfl, LW, _, _, _, rfl, rfl, SqL.of KT.lw, atI_ref hp, p, CW, dp, _, _, rfl, hpx, C.w, C.kills, rfl, ?_⟩
    refine ⟨_, rfl, k, CK, dk, _, _, rfl, hk, C.k, C.warmths, rfl, _, rfl, LW, _, _, _, rfl, rfl, SqL.of KT.lw, atI_ref hp', p', CW, dp', _, _, rfl, hpy, C.w, C.kills, rfl, ?_⟩
    refine ⟨_, _, rfl, rfl, _, rfl, ite_d (fun h => ⟨one_ok, fun r hr' => ?_⟩) fun h => ⟨one_ok, fun r hr' => ?_⟩⟩
    · rw [decide_eq_true (by omega)] at q
      exact q.new KT (Same.refl H) hr'
    · rw [decide_eq_false (by omega)] at q
      exact q.new KT (Same.refl H) hr'
theorem sc_tell_half : FnScope ["kitchen", "w", "seconds"] ["kitchen", "w"] (defScope s_tell_half) := ⟨rfl, rfl, rfl, by decide +kernel, rfl, by decide +kernel, by decide +kernel⟩
def sp_tell_half (CW CB CK : Addr) : Sp := fun vs H Q _ => ∃ v : Nat, spc CW CB CK [I v] (.half v) vs H Q
theorem ok_tell_half (R : Raw K mg "tell_half" s_tell_half ["kitchen", "w"]) (T : Cst mg) (C : Cl K CW CB CK) (Dhw : Def P w K mg base 1 "has_warmth" ["kitchen", "w"] (sp_has_warmth CW CB CK)) (Dls : Def P w K mg base 2 "least_seconds" ["alive", "kills", "limit"] sp_least_seconds) : Def P w K mg base 3 "tell_half" ["kitchen", "w"] (sp_tell_half CW CB CK) := by
  refine R.ok sc_tell_half (fun vs H Q E h => ?_) (fun f cdv A outer s H vs Q E hr h => ?_)
  · obtain ⟨v, k, a, LW, LB, ws, bs, rfl, _⟩ := h
    rfl
  · obtain ⟨v, k, a, LW, LB, ws, bs, rfl, KT, q⟩ := h
    have hr1 : Room 1 _ := hr.mono (by decide)
    refine ⟨_, pss_cons (ps_if (pt_not (pt_val (pe_def Dhw hr1 (pa_cons (pv 0) (pa_cons (pv 1) pa_nil))))) (pss_one (ps_ret (pe_lst (pa_cons (pe_cst T.NO_SUCH) pa_nil)))) pss_nil)
      (pss_cons (ps_set (i := 2) sc_tell_half.nd rfl (Or.inl rfl) (pe_def Dls hr (pa_cons (pe_cst T.MILLION) (pa_cons (pe_fld (pe_ix ix_list (pe_fld (pv 0) rfl) (pv 1) (fun _ _ => rfl)) rfl) (pa_cons (pe_cst T.HALF_A_MILLION) pa_nil)))))
      (pss_cons (ps_if (pt_cmp (pc_isN (pv 2))) (pss_one (ps_ret (pe_lst (pa_cons (pe_cst T.NOT_SO) pa_nil)))) pss_nil)
      (pss_one (ps_ret (pe_lst (pa_cons (pv 2) pa_nil)))))), ?_⟩
    refine rd_hw KT rfl rfl (ite_nd (fun hv => ?_) fun hv => ?_)
    · refine ⟨one_ok, fun p hp => ?_⟩
      have e : a.does (.half v) = (a, Kv342.say (-2)) := by show (if a.hasW v = false then _ else _) = _; rw [hasW_f hv, if_pos rfl]
      rw [e] at q
      exact q.new KT (Same.refl H) hp
    obtain ⟨y, hy⟩ : ∃ y, a.warms[v]? = some y := ⟨_, List.getElem?_eq_getElem hv⟩
    have e : a.does (.half v) = (a, Kv342.tell (Kv342.least y.kills 500000 1000000)) := by
      show (if a.hasW v = false then _ else _) = _
      rw [hasW_t hv, if_neg (by decide), warm_at hy]
      rfl
    rw [e] at q
    obtain ⟨dk, hk⟩ := KT.kit
    obtain ⟨p, dp, hp, hpy⟩ := KT.wa v y hy
    have hky := (KT.ok.w y (List.mem_of_getElem? hy)).2.1
    refine ⟨_, rfl, k, CK, dk, _, _, rfl, hk, C.k, C.warmths, rfl, _, rfl, LW, _, _, _, rfl, rfl, SqL.of KT.lw, atI_ref hp, p, CW, dp, _, _, rfl, hpy, C.w, C.kills, rfl, 1000000, y.kills, 500000, rfl, hky, ?_⟩
    cases hl : Kv342.least y.kills 500000 1000000 with
    | none =>
      rw [hl] at q
      refine ⟨_, rfl, _, rfl, ite_d (fun _ => ?_) fun hc => absurd rfl hc⟩
      exact ⟨one_ok, fun p hp => q.new KT (Same.refl H) hp⟩
    | some n =>
      rw [hl] at q
      refine ⟨_, rfl, _, rfl, ite_d (fun hc => by cases hc) fun _ => ?_⟩
      exact ⟨_, rfl, one_ok, fun p hp => q.new KT (Same.refl H) hp⟩
end
end Bl
end
section
set_option Elab.async false
set_option linter.all false
set_option maxRecDepth 100000
set_option maxHeartbeats 2000000
namespace Bl
open PySem PySem.Spec PyProof.Rows L2
section
variable {P : Program} {w : World} {K : PySem.W.Frag} {mg : Str → Option Value} {base : Heap} {CW CB CK : Addr} {H H' H1 : Hp} {k : Addr} {a a' : Kv342.Abs} {LW LB : Addr} {ws : List Addr} {bs : List (Addr × Addr × Addr)} {σ : L2.St} {F : List Addr} {S : Kv342.State}
/-- // by a positive divisor below 2^64 -/
theorem op_fdivB {X : Cx} : OpR X (binaryOp .FloorDiv) (rI (fun _ j => 0 < j ∧ j < 18446744073709551616) fun i j => .int (i / j)) := opI fun i j _ _ _ _ _ hc q => by
  have h1 : (0 : Int) < j := hc.1
  have h2 : j < 18446744073709551616 := hc.2
  refine floordiv_int (by omega) (by rw [Int.fdiv_eq_ediv_of_nonneg i (by omega)]; exact q) (.inl (PyProof.noPylong_of_log2 ?_))
  exact Nat.lt_of_lt_of_le ((Nat.log2_lt (by omega)).mpr (show j.natAbs < 2 ^ 64 by omega)) (by decide)
theorem row_list (l : List Nat) : (Kv342Neutral.row (Kv342.list l)).map V.int = V.int ((l.length : Nat) : Int) :: l.map I := by
  show (_ :: (l.map Int.ofNat)).map V.int = _
  rw [List.map_cons, List.map_map]
  rfl
theorem sc_tell_done : FnScope ["kitchen", "b"] ["kitchen", "b"] (defScope s_tell_done) := ⟨rfl, rfl, rfl, by decide +kernel, rfl, by decide +kernel, by decide +kernel⟩
def sp_tell_done (CW CB CK : Addr) : Sp := fun vs H Q _ => ∃ b : Nat, spc CW CB CK [I b] (.done b) vs H Q
theorem ok_tell_done (R : Raw K mg "tell_done" s_tell_done ["kitchen", "b"]) (T : Cst mg) (C : Cl K CW CB CK) (Dhb : Def P w K mg base 1 "has_batch" ["kitchen", "b"] (sp_has_batch CW CB CK)) (Ddo : Def P w K mg base 2 "is_done" ["kitchen", "batch"] (sp_is_done CW CB CK)) : Def P w K mg base 3 "tell_done" ["kitchen", "b"] (sp_tell_done CW CB CK) := by
  refine R.ok sc_tell_done (fun vs H Q E h => ?_) (fun f cdv A outer s H vs Q E hr h => ?_)
  · obtain ⟨b, k, a, LW, LB, ws, bs, rfl, _⟩ := h
    rfl
  · obtain ⟨b, k, a, LW, LB, ws, bs, rfl, KT, q⟩ := h
    have hr1 : Room 1 _ := hr.mono (by decide)
    refine ⟨_, pss_cons (ps_if (pt_not (pt_val (pe_def Dhb hr1 (pa_cons (pv 0) (pa_cons (pv 1) pa_nil))))) (pss_one (ps_ret (pe_lst (pa_cons (pe_cst T.NO_SUCH) pa_nil)))) pss_nil)
      (pss_one (ps_ret (pe_lst (pa_cons (pe_ifExp (pt_val (pe_def Ddo hr (pa_cons (pv 0) (pa_cons (pe_ix ix_list (pe_fld (pv 0) rfl) (pv 1) (fun _ _ => rfl)) pa_nil)))) pe_int pe_int) pa_nil)))), ?_⟩
    refine rd_hb KT rfl rfl (ite_nd (fun hb => ?_) fun hb => ?_)
    · refine ⟨one_ok, fun p hp => ?_⟩
      have e : a.does (.done b) = (a, Kv342.say (-2)) := by show (if a.has b = false then _ else _) = _; rw [has_f hb, if_pos rfl]
      rw [e] at q
      exact q.new KT (Same.refl H) hp
    obtain ⟨x, hx⟩ : ∃ x, a.batches[b]? = some x := ⟨_, List.getElem?_eq_getElem hb⟩
    obtain ⟨p, sz, rt, hp, B⟩ := KT.ba b x hx
    have e0 : a.does (.done b) = (a, Kv342.say (Kv342.bit (decide (x.waste = 0) && decide (x.alive ≤ a.limit)) : Nat)) := by
      show (if a.has b = false then _ else _) = _
      rw [has_t hb, if_neg (by decide), batch_at hx]
    rw [e0] at q
    refine ⟨_, rfl, rd_bat C KT rfl rfl hp ?_⟩
    refine ⟨k, a, p, sz, rt, x, rfl, ⟨LW, LB, ws, bs, KT⟩, B, _, rfl, ite_d (fun h => ⟨one_ok, fun r hr' => ?_⟩) fun h => ⟨one_ok, fun r hr' => ?_⟩⟩
    · rw [decide_eq_true h.1, decide_eq_true h.2] at q
      exact q.new KT (Same.refl H) hr'
    · have e : (decide (x.waste = 0) && decide (x.alive ≤ a.limit)) = false := by rw [← Bool.decide_and]; exact decide_eq_false h
      rw [e] at q
      exact q.new KT (Same.refl H) hr'
theorem sc_tell_kilograms : FnScope ["kitchen", "b", "batch"] ["kitchen", "b"] (defScope s_tell_kilograms) := ⟨rfl, rfl, rfl, by decide +kernel, rfl, by decide +kernel, by decide +kernel⟩
def sp_tell_kilograms (CW CB CK : Addr) : Sp := fun vs H Q _ => ∃ b : Nat, spc CW CB CK [I b] (.kg b) vs H Q
theorem ok_tell_kilograms (R : Raw K mg "tell_kilograms" s_tell_kilograms ["kitchen", "b"]) (T : Cst mg) (C : Cl K CW CB CK) (Dhb : Def P w K mg base 1 "has_batch" ["kitchen", "b"] (sp_has_batch CW CB CK)) (Dkg : Def P w K mg base 1 "kilograms" ["batch"] (sp_kilograms CB)) : Def P w K mg base 2 "tell_kilograms" ["kitchen", "b"] (sp_tell_kilograms CW CB CK) := by
  refine R.ok sc_tell_kilograms (fun vs H Q E h => ?_) (fun f cdv A outer s H vs Q E hr h => ?_)
  · obtain ⟨b, k, a, LW, LB, ws, bs, rfl, _⟩ := h
    rfl
  · obtain ⟨b, k, a, LW, LB, ws, bs, rfl, KT, q⟩ := h
    refine ⟨_, pss_cons (ps_if (pt_not (pt_val (pe_def Dhb hr (pa_cons (pv 0) (pa_cons (pv 1) pa_nil))))) (pss_one (ps_ret (pe_lst (pa_cons (pe_cst T.NO_SUCH) pa_nil)))) pss_nil)
      (pss_cons (ps_set (i := 2) sc_tell_kilograms.nd rfl (Or.inl rfl) (pe_ix ix_list (pe_fld (pv 0) rfl) (pv 1) (fun _ _ => rfl)))
      (pss_one (ps_ret (pe_lst (pa_cons (pe_def Dkg hr (pa_cons (pv 2) pa_nil)) (pa_cons (pe_fld (pv 2) rfl) pa_nil)))))), ?_⟩
    refine rd_hb KT rfl rfl (ite_nd (fun hb => ?_) fun hb => ?_)
    · refine ⟨one_ok, fun p hp => ?_⟩
      have e : a.does (.kg b) = (a, Kv342.say (-2)) := by show (if a.has b = false then _ else _) = _; rw [has_f hb, if_pos rfl]
      rw [e] at q
      exact q.new KT (Same.refl H) hp
    obtain ⟨x, hx⟩ : ∃ x, a.batches[b]? = some x := ⟨_, List.getElem?_eq_getElem hb⟩
    obtain ⟨p, sz, rt, hp, B⟩ := KT.ba b x hx
    obtain ⟨dx, hpx⟩ := B.at_
    have e0 : a.does (.kg b) = (a, ⟨(x.kg : Nat), [x.waste]⟩) := by
      show (if a.has b = false then _ else _) = _
      rw [has_t hb, if_neg (by decide), batch_at hx]
    rw [e0] at q
    refine rd_bat C KT rfl rfl hp ?_
    refine ⟨_, rfl, p, sz, rt, x, rfl, B, _, rfl, p, CB, dx, _, _, rfl, hpx, C.b, C.waste, rfl, (by show 2 ≤ sizeLine; decide), fun r hr' => ?_⟩
    exact q.new KT (Same.refl H) hr'
theorem sc_tell_sizes : FnScope ["kitchen", "b"] ["kitchen", "b"] (defScope s_tell_sizes) := ⟨rfl, rfl, rfl, by decide +kernel, rfl, by decide +kernel, by decide +kernel⟩
def sp_tell_sizes (CW CB CK : Addr) : Sp := fun vs H Q _ => ∃ b : Nat, spc CW CB CK [I b] (.sizes b) vs H Q
theorem ok_tell_sizes (R : Raw K mg "tell_sizes" s_tell_sizes ["kitchen", "b"]) (T : Cst mg) (C : Cl K CW CB CK) (Dhb : Def P w K mg base 1 "has_batch" ["kitchen", "b"] (sp_has_batch CW CB CK)) : Def P w K mg base 2 "tell_sizes" ["kitchen", "b"] (sp_tell_sizes CW CB CK) := by
  refine R.ok sc_tell_sizes (fun vs H Q E h => ?_) (fun f cdv A outer s H vs Q E hr h => ?_)
  · obtain ⟨b, k, a, LW, LB, ws, bs, rfl, _⟩ := h
    rfl
  · obtain ⟨b, k, a, LW, LB, ws, bs, rfl, KT, q⟩ := h
    refine ⟨_, pss_cons (ps_if (pt_not (pt_val (pe_def Dhb hr (pa_cons (pv 0) (pa_cons (pv 1) pa_nil))))) (pss_one (ps_ret (pe_lst (pa_cons (pe_cst T.NO_SUCH) pa_nil)))) pss_nil)
      (pss_one (ps_ret (pe_op op_cat (pe_lst (pa_cons (pe_cst T.SIZE_COUNT) pa_nil)) (pe_fld (pe_ix ix_list (pe_fld (pv 0) rfl) (pv 1) (fun _ _ => rfl)) rfl)))), ?_⟩
    refine rd_hb KT rfl rfl (ite_nd (fun hb => ?_) fun hb => ?_)
    · refine ⟨one_ok, fun p hp => ?_⟩
      have e : a.does (.sizes b) = (a, Kv342.say (-2)) := by show (if a.has b = false then _ else _) = _; rw [has_f hb, if_pos rfl]
      rw [e] at q
      exact q.new KT (Same.refl H) hp
    obtain ⟨x, hx⟩ : ∃ x, a.batches[b]? = some x := ⟨_, List.getElem?_eq_getElem hb⟩
    obtain ⟨p, sz, rt, hp, B⟩ := KT.ba b x hx
    obtain ⟨dx, hpx⟩ := B.at_
    have ox := KT.ok.b x (List.mem_of_getElem? hx)
    have e0 : a.does (.sizes b) = (a, Kv342.list x.sizes) := by
      show (if a.has b = false then _ else _) = _
      rw [has_t hb, if_neg (by decide), batch_at hx]
    rw [e0] at q
    refine ⟨one_ok, fun r1 n1 => ?_⟩
    have s1 := Same.new (o := .lst [V.int 5]) n1
    refine rd_bat C (KT.same s1) rfl rfl hp ?_
    refine ⟨p, CB, dx, _, _, rfl, s1 _ _ hpx, C.b, C.sizes, rfl, r1, sz, _, _, rfl, rfl, upd_same, s1 _ _ B.sz, (by rw [List.length_map, ox.five]; show 1 + 5 ≤ sizeLine; decide), fun r2 n2 => ?_⟩
    have q2 := q.new KT s1 n2
    unfold Ls at q2
    rw [row_list, ox.five] at q2
    exact q2
/-- each size's part of the mean -/
def weighed (x : Kv342.Batch) : List Nat := (List.range 5).map fun k => k * x.sizes.getD k 0
theorem weighed_at {x : Kv342.Batch} {i v : Nat} (hi : i < 5) (h : x.sizes[i]? = some v) : (weighed x)[i]? = some (i * v) := by
  unfold weighed
  rw [List.getElem?_map, List.getElem?_range hi]
  show some (i * x.sizes.getD i 0) = _
  rw [List.getD_eq_getElem?_getD, h]
  rfl
theorem sc_tell_mean : FnScope ["kitchen", "b", "batch", "weighed", "size"] ["kitchen", "b"] (defScope s_tell_mean) := ⟨rfl, rfl, rfl, by decide +kernel, rfl, by decide +kernel, by decide +kernel⟩
def sp_tell_mean (CW CB CK : Addr) : Sp := fun vs H Q _ => ∃ b : Nat, spc CW CB CK [I b] (.mean b) vs H Q
theorem ok_tell_mean (R : Raw K mg "tell_mean" s_tell_mean ["kitchen", "b"]) (T : Cst mg) (C : Cl K CW CB CK) (Dhb : Def P w K mg base 1 "has_batch" ["kitchen", "b"] (sp_has_batch CW CB CK)) (Dkg : Def P w K mg base 1 "kilograms" ["batch"] (sp_kilograms CB)) : Def P w K mg base 2 "tell_mean" ["kitchen", "b"] (sp_tell_mean CW CB CK) := by
  refine R.ok sc_tell_mean (fun vs H Q E h => ?_) (fun f cdv A outer s H vs Q E hr h => ?_)
  · obtain ⟨b, k, a, LW, LB, ws, bs, rfl, _⟩ := h
    rfl
  · obtain ⟨b, k, a, LW, LB, ws, bs, rfl, KT, q⟩ := h
    refine ⟨_, pss_cons (ps_if (pt_not (pt_val (pe_def Dhb hr (pa_cons (pv 0) (pa_cons (pv 1) pa_nil))))) (pss_one (ps_ret (pe_lst (pa_cons (pe_cst T.NO_SUCH) pa_nil)))) pss_nil)
      (pss_cons (ps_set (i := 2) sc_tell_mean.nd rfl (Or.inr rfl) (pe_ix ix_list (pe_fld (pv 0) rfl) (pv 1) (fun _ _ => rfl)))
      (pss_cons (ps_set (i := 3) sc_tell_mean.nd rfl (Or.inl rfl) (pe_callB (cr_sum rfl) (by rfl) T.sum PyProof.Rows.boot_sum (pa_cons (pe_lc (own := [("size", 4)]) (g := gName 4) (tt := tYes) (te := tOp (rI CMul fun i j => .int (i * j)) (tVar 4) (tOp (rIxL K) (tFld K (tVar 2) "sizes") (tVar 4))) rfl sc_tell_mean.nd (pi_range1 rfl T.range (pa_cons (pe_cst T.SIZE_COUNT) pa_nil)) (blkOk_by (by show blkC ["kitchen", "b", "batch", "weighed", "size"] (defScope s_tell_mean) _ [("size", 4)] = true; decide +kernel))
        (fun _ _ _ _ _ => pg_name (i := 4) sc_tell_mean.nd rfl (Or.inl rfl)) (fun _ _ _ _ _ => pts_nil)
        (fun _ _ _ _ _ => pe_op op_mul (pv 4) (pe_ix ix_list (pe_fld (pv 2) rfl) (pv 4) (fun _ _ => rfl)))) pa_nil)))
      (pss_one (ps_ret (pe_lst (pa_cons (pe_op op_fdivB (pe_op op_mul (pv 3) (pe_cst T.THOUSAND)) (pe_def Dkg hr (pa_cons (pv 2) pa_nil))) pa_nil)))))), ?_⟩
    refine rd_hb KT rfl rfl (ite_nd (fun hb => ?_) fun hb => ?_)
    · refine ⟨one_ok, fun p hp => ?_⟩
      have e : a.does (.mean b) = (a, Kv342.say (-2)) := by show (if a.has b = false then _ else _) = _; rw [has_f hb, if_pos rfl]
      rw [e] at q
      exact q.new KT (Same.refl H) hp
    obtain ⟨x, hx⟩ : ∃ x, a.batches[b]? = some x := ⟨_, List.getElem?_eq_getElem hb⟩
    obtain ⟨p, sz, rt, hp, B⟩ := KT.ba b x hx
    obtain ⟨dx, hpx⟩ := B.at_
    have ox := KT.ok.b x (List.mem_of_getElem? hx)
    have hkg := kg_lt (KT.ok.kg b x hx) (Nat.lt_of_lt_of_le hb KT.ok.bl)
    have e0 : a.does (.mean b) = (a, Kv342.say (((weighed x).sum * 1000 / x.sizes.sum : Nat) : Int)) := by
      show (if a.has b = false then _ else _) = _
      rw [has_t hb, if_neg (by decide), batch_at hx]
      rfl
    rw [e0] at q
    refine rd_bat C KT rfl rfl hp ?_
    refine ⟨(5 : Int), rfl, by decide, by decide, fun D hD => ?_⟩
    refine lc_range (n := 5) (fun i H' => H' = upd H D (.lst (((weighed x).take i).map I))) rfl ?_ ?_
    · rintro i H' hi rfl
      obtain ⟨v, hv⟩ : ∃ v, x.sizes[i]? = some v := ⟨_, List.getElem?_eq_getElem (by rw [ox.five]; exact hi)⟩
      have s := Same.new (o := .lst (((weighed x).take i).map I)) hD
      refine ⟨rfl, ?_⟩
      unfold tYes
      dsimp only
      rw [if_pos rfl]
      refine ⟨_, rfl, _, rfl, p, CB, dx, _, _, rfl, s _ _ hpx, C.b, C.sizes, rfl, _, rfl, sz, _, _, _, rfl, rfl, SqL.of (s _ _ B.sz), atI_I hv, _, _, rfl, rfl, .inl ⟨by omega, by omega⟩, _, upd_same, ?_, ?_⟩
      · rw [List.length_map, List.length_take, sizeLine_eq]
        omega
      · rw [upd_upd, take_snocN (weighed_at hi hv), List.map_append]
        have e : V.int ((0 + ((i : Nat) : Int)) * ((v : Nat) : Int)) = I (i * v) := by rw [Int.zero_add, ← Int.natCast_mul]
        show upd H D (.lst (((weighed x).take i).map I ++ [V.int ((0 + ((i : Nat) : Int)) * ((v : Nat) : Int))])) = _
        rw [e]
        rfl
    · rintro H' rfl
      have e5 : (weighed x).take 5 = weighed x := List.take_of_length_le (Nat.le_of_eq rfl)
      rw [e5]
      have s1 := Same.new (o := .lst ((weighed x).map I)) hD
      refine ⟨D, (weighed x).map (fun k => ((k : Nat) : Int)), rfl, SqL.of (by rw [← map_I]; exact upd_same), ?_⟩
      rw [sum_ints]
      refine ⟨_, rfl, _, _, rfl, rfl, .inr ⟨by decide, by decide⟩, _, rfl, p, sz, rt, x, rfl, B.same s1, _, _, rfl, rfl, ⟨?_, ?_⟩, one_ok, fun r hr' => ?_⟩
      · show (0 : Int) < ((x.sizes.sum : Nat) : Int)
        have := ox.pos
        omega
      · show ((x.sizes.sum : Nat) : Int) < 18446744073709551616
        omega
      · have q2 := q.new KT s1 hr'
        have e : (((weighed x).sum * 1000 / x.sizes.sum : Nat) : Int) = (((weighed x).sum : Nat) : Int) * 1000 / ((x.sizes.sum : Nat) : Int) := by rw [Int.natCast_ediv, Int.natCast_mul]; rfl
        rw [e] at q2
        exact q2
theorem sc_tell_parts : FnScope ["kitchen", "b", "m", "batch", "through"] ["kitchen", "b", "m"] (defScope s_tell_parts) := ⟨rfl, rfl, rfl, by decide +kernel, rfl, by decide +kernel, by decide +kernel⟩
def sp_tell_parts (CW CB CK : Addr) : Sp := fun vs H Q _ => ∃ b m : Nat, spc CW CB CK [I b, I m] (.parts b m) vs H Q
theorem ok_tell_parts (R : Raw K mg "tell_parts" s_tell_parts ["kitchen", "b", "m"]) (T : Cst mg) (C : Cl K CW CB CK) (Dhb : Def P w K mg base 1 "has_batch" ["kitchen", "b"] (sp_has_batch CW CB CK)) (Dkg : Def P w K mg base 1 "kilograms" ["batch"] (sp_kilograms CB)) (Dme : Def P w K mg base 1 "is_mesh" ["m"] sp_is_mesh) : Def P w K mg base 2 "tell_parts" ["kitchen", "b", "m"] (sp_tell_parts CW CB CK) := by
  refine R.ok sc_tell_parts (fun vs H Q E h => ?_) (fun f cdv A outer s H vs Q E hr h => ?_)
  · obtain ⟨b, m, k, a, LW, LB, ws, bs, rfl, _⟩ := h
    rfl
  · obtain ⟨b, m, k, a, LW, LB, ws, bs, rfl, KT, q⟩ := h
    refine ⟨_, pss_cons (ps_if (pt_not (pt_val (pe_def Dhb hr (pa_cons (pv 0) (pa_cons (pv 1) pa_nil))))) (pss_one (ps_ret (pe_lst (pa_cons (pe_cst T.NO_SUCH) pa_nil)))) pss_nil)
      (pss_cons (ps_if (pt_not (pt_val (pe_def Dme hr (pa_cons (pv 2) pa_nil)))) (pss_one (ps_ret (pe_lst (pa_cons (pe_cst T.OUT_OF_RANGE) pa_nil)))) pss_nil)
      (pss_cons (ps_set (i := 3) sc_tell_parts.nd rfl (Or.inl rfl) (pe_ix ix_list (pe_fld (pv 0) rfl) (pv 1) (fun _ _ => rfl)))
      (pss_cons (ps_set (i := 4) sc_tell_parts.nd rfl (Or.inl rfl) (pe_callB (cr_sum rfl) (by rfl) T.sum PyProof.Rows.boot_sum (pa_cons (pe_slice sl_list (pe_fld (pv 3) rfl) po_none (po_some (pv 2))) pa_nil)))
      (pss_one (ps_ret (pe_lst (pa_cons (pv 4) (pa_cons (pe_op op_sub (pe_def Dkg hr (pa_cons (pv 3) pa_nil)) (pv 4)) (pa_cons (pe_op op_fdivB (pe_op op_mul (pv 4) (pe_cst T.THOUSAND)) (pe_def Dkg hr (pa_cons (pv 3) pa_nil))) pa_nil))))))))), ?_⟩
    refine rd_hb KT rfl rfl (ite_nd (fun hb => ?_) fun hb => ?_)
    · refine ⟨one_ok, fun p hp => ?_⟩
      have e : a.does (.parts b m) = (a, Kv342.say (-2)) := by show (if a.has b = false then _ else _) = _; rw [has_f hb, if_pos rfl]
      rw [e] at q
      exact q.new KT (Same.refl H) hp
    obtain ⟨x, hx⟩ : ∃ x, a.batches[b]? = some x := ⟨_, List.getElem?_eq_getElem hb⟩
    obtain ⟨p, sz, rt, hp, B⟩ := KT.ba b x hx
    obtain ⟨dx, hpx⟩ := B.at_
    have ox := KT.ok.b x (List.mem_of_getElem? hx)
    have hkg := kg_lt (KT.ok.kg b x hx) (Nat.lt_of_lt_of_le hb KT.ok.bl)
    have e0 : a.does (.parts b m) = (if m = 0 ∨ 4 < m then (a, Kv342.say (-22)) else (a, ⟨((Kv342.under x.sizes m).sum : Nat), [(Kv342.over x.sizes m).sum, (Kv342.under x.sizes m).sum * 1000 / x.sizes.sum]⟩)) := by
      show (if a.has b = false then _ else _) = _
      rw [has_t hb, if_neg (by decide), batch_at hx]
      rfl
    rw [e0] at q
    refine rd_mesh rfl (ite_nd (fun hc => ?_) fun hc => ?_)
    · refine ⟨one_ok, fun r hr' => ?_⟩
      rw [if_pos (by omega)] at q
      exact q.new KT (Same.refl H) hr'
    rw [if_neg (by omega)] at q
    obtain ⟨ps1, ps2⟩ := parts_sum ox.five hc.1 hc.2
    refine rd_bat C KT rfl rfl hp ?_
    refine ⟨_, rfl, p, CB, dx, _, _, rfl, hpx, C.b, C.sizes, rfl, _, rfl, _, rfl, sz, _, rfl, SqL.of B.sz, fun r1 n1 => ?_⟩
    rw [cut_to]
    have s1 := Same.new (o := .lst ((x.sizes.take m).map I)) n1
    refine ⟨r1, (x.sizes.take m).map (fun k => ((k : Nat) : Int)), rfl, SqL.of (by rw [← map_I]; exact upd_same), ?_⟩
    rw [sum_ints, ps1]
    refine ⟨_, rfl, _, rfl, p, sz, rt, x, rfl, B.same s1, _, rfl, _, _, rfl, rfl, ?_⟩
    refine ⟨_, rfl, _, _, rfl, rfl, .inr ⟨by decide, by decide⟩, _, rfl, p, sz, rt, x, rfl, B.same s1, _, _, rfl, rfl, ⟨?_, ?_⟩, (by show 3 ≤ sizeLine; decide), fun r hr' => ?_⟩
    · show (0 : Int) < ((x.sizes.sum : Nat) : Int)
      have := ox.pos
      omega
    · show ((x.sizes.sum : Nat) : Int) < 18446744073709551616
      omega
    · have q2 := q.new KT s1 hr'
      have e1 : (((Kv342.under x.sizes m).sum * 1000 / x.sizes.sum : Nat) : Int) = (((Kv342.under x.sizes m).sum : Nat) : Int) * 1000 / ((x.sizes.sum : Nat) : Int) := by rw [Int.natCast_ediv, Int.natCast_mul]; rfl
      have e2 : (((Kv342.over x.sizes m).sum : Nat) : Int) = ((x.sizes.sum : Nat) : Int) - (((Kv342.under x.sizes m).sum : Nat) : Int) := by omega
      have e3 : Kv342Neutral.row ⟨((Kv342.under x.sizes m).sum : Nat), [(Kv342.over x.sizes m).sum, (Kv342.under x.sizes m).sum * 1000 / x.sizes.sum]⟩ = [(((Kv342.under x.sizes m).sum : Nat) : Int), ((x.sizes.sum : Nat) : Int) - (((Kv342.under x.sizes m).sum : Nat) : Int), (((Kv342.under x.sizes m).sum : Nat) : Int) * 1000 / ((x.sizes.sum : Nat) : Int)] := by rw [← e1, ← e2]; rfl
      dsimp only at q2
      rw [e3] at q2
      exact q2
end
end Bl
end
section
set_option Elab.async false
set_option linter.all false
set_option maxRecDepth 100000
set_option maxHeartbeats 2000000
namespace Bl
open PySem PySem.Spec PyProof.Rows L2
section
variable {P : Program} {w : World} {K : PySem.W.Frag} {mg : Str → Option Value} {base : Heap} {CW CB CK : Addr} {H H' H1 : Hp} {k : Addr} {a a' : Kv342.Abs} {LW LB : Addr} {ws : List Addr} {bs : List (Addr × Addr × Addr)} {σ : L2.St} {F : List Addr} {S : Kv342.State}
def sp_counted : Sp := fun vs H Q _ => ∃ (r : Addr) (l : List Nat), vs = [.ref r] ∧ H r = some (.lst (l.map I)) ∧ l.length ≤ 1000 ∧ ∀ (H' : Hp) (p : Addr), Same H H' → H p = none → H' p = some (Ls (Kv342Neutral.row (Kv342.list l))) → Q (.ref p) H'
theorem sc_counted : FnScope ["numbers"] ["numbers"] (defScope s_counted) := ⟨rfl, rfl, rfl, by decide +kernel, rfl, by decide +kernel, by decide +kernel⟩
theorem ok_counted (R : Raw K mg "counted" s_counted ["numbers"]) (T : Cst mg) : Def P w K mg base 1 "counted" ["numbers"] sp_counted := by
  refine R.ok sc_counted (fun vs H Q E h => ?_) (fun f cdv A outer s H vs Q E hr h => ?_)
  · obtain ⟨r, l, rfl, _⟩ := h
    rfl
  · obtain ⟨r, l, rfl, hl, hn, q⟩ := h
    refine ⟨_, pss_one (ps_ret (pe_op op_cat (pe_lst (pa_cons (pe_callB call_len_seq (by rfl) T.len PySem.boot_len (pa_cons (pv 0) pa_nil)) pa_nil)) (pv 0))), ?_⟩
    refine ⟨_, rfl, r, _, rfl, .inl (SqL.of hl), one_ok, fun r1 n1 => ?_⟩
    have s1 := Same.new (o := .lst [V.int (((l.map I).length : Nat) : Int)]) n1
    refine ⟨_, rfl, r1, r, _, _, rfl, rfl, upd_same, s1 _ _ hl, (by rw [List.length_map, sizeLine_eq]; show 1 + _ ≤ _; omega), fun r2 n2 => ?_⟩
    refine q _ r2 (s1.trans (Same.new n2)) (s1.free n2) ?_
    unfold Ls
    rw [upd_same, row_list, List.length_map]
    rfl
/-- the batches that are there -/
def thereTo (a : Kv342.Abs) (i : Nat) : List Nat := (List.range i).filter fun b => !((a.batch b).gone)
abbrev there (a : Kv342.Abs) : List Nat := thereTo a a.batches.length
theorem thereTo_succ (a : Kv342.Abs) (i : Nat) : thereTo a (i + 1) = thereTo a i ++ if (!((a.batch i).gone)) = true then [i] else [] := by
  unfold thereTo
  rw [List.range_succ, List.filter_append, List.filter_cons, List.filter_nil]
theorem thereTo_len (a : Kv342.Abs) (i : Nat) : (thereTo a i).length ≤ i := by
  unfold thereTo
  exact Nat.le_trans (List.length_filter_le _ _) (Nat.le_of_eq List.length_range)
theorem there_lt {b : Nat} (h : b ∈ there a) : b < a.batches.length := by
  unfold there thereTo at h
  exact List.mem_range.mp (List.mem_filter.mp h).1
theorem rd_batI {i j b : Nat} {p sz rt : Addr} {Q : VK} (C : Cl K CW CB CK) (T : Kit CW CB CK H k a LW LB ws bs) (h1 : σ[i]? = some (some (.ref k))) (h2 : σ[j]? = some (some (V.int (0 + ((b : Nat) : Int))))) (hp : bs[b]? = some (p, sz, rt)) (h : Q (.ref p) H) :
    tOp (rIxL K) (tFld K (tVar i) "batches") (tVar j) σ H Q := by
  rw [Int.zero_add] at h2
  exact rd_bat C T h1 h2 hp h
def sp_numbers_there (CW CB CK : Addr) : Sp := fun vs H Q _ => ∃ (k : Addr) (a : Kv342.Abs) (LW LB : Addr) (ws : List Addr) (bs : List (Addr × Addr × Addr)), vs = [.ref k] ∧ Kit CW CB CK H k a LW LB ws bs ∧
  ∀ (H' : Hp) (p : Addr), Same H H' → H p = none → H' p = some (.lst ((there a).map I)) → Q (.ref p) H'
theorem sc_numbers_there : FnScope ["kitchen", "b"] ["kitchen"] (defScope s_numbers_there) := ⟨rfl, rfl, rfl, by decide +kernel, rfl, by decide +kernel, by decide +kernel⟩
theorem ok_numbers_there (R : Raw K mg "numbers_there" s_numbers_there ["kitchen"]) (T : Cst mg) (C : Cl K CW CB CK) : Def P w K mg base 1 "numbers_there" ["kitchen"] (sp_numbers_there CW CB CK) := by
  refine R.ok sc_numbers_there (fun vs H Q E h => ?_) (fun f cdv A outer s H vs Q E hr h => ?_)
  · obtain ⟨k, a, LW, LB, ws, bs, rfl, _⟩ := h
    rfl
  · obtain ⟨k, a, LW, LB, ws, bs, rfl, KT, q⟩ := h
    refine ⟨_, pss_one (ps_ret (pe_lc (own := [("b", 1)]) (g := gName 1) (tt := tNot (tB (tFld K (tOp (rIxL K) (tFld K (tVar 0) "batches") (tVar 1)) "gone"))) (te := tVar 1) rfl sc_numbers_there.nd (pi_range1 rfl T.range (pa_cons (pe_callB call_len_seq (by rfl) T.len PySem.boot_len (pa_cons (pe_fld (pv 0) rfl) pa_nil)) pa_nil)) (blkOk_by (by show blkC ["kitchen", "b"] (defScope s_numbers_there) _ [("b", 1)] = true; decide +kernel))
        (fun _ _ _ _ _ => pg_name (i := 1) sc_numbers_there.nd rfl (Or.inl rfl)) (fun _ _ _ _ _ => pts_one (pt_not (pt_val (pe_fld (pe_ix ix_list (pe_fld (pv 0) rfl) (pv 1) (fun _ _ => rfl)) rfl)))) (fun _ _ _ _ _ => pv 1))), ?_⟩
    obtain ⟨dk, hk⟩ := KT.kit
    have hlen : (bs.map fun b => V.ref b.1).length = a.batches.length := by rw [List.length_map, KT.bl]
    have h40 := KT.ok.bl
    refine ⟨_, rfl, k, CK, dk, _, _, rfl, hk, C.k, C.batches, rfl, LB, _, rfl, .inl (SqL.of KT.lb), ((a.batches.length : Nat) : Int), by rw [hlen], by omega, by omega, fun D hD => ?_⟩
    refine lc_range (n := a.batches.length) (fun i H' => H' = upd H D (.lst ((thereTo a i).map I))) rfl ?_ ?_
    · rintro i H' hi rfl
      have s1 := Same.new (o := .lst ((thereTo a i).map I)) hD
      obtain ⟨x, hx⟩ : ∃ x, a.batches[i]? = some x := ⟨_, List.getElem?_eq_getElem hi⟩
      obtain ⟨p, sz, rt, hp, B⟩ := KT.ba i x hx
      obtain ⟨dx, hpx⟩ := B.at_
      have e := thereTo_succ a i
      rw [batch_at hx] at e
      refine ⟨rfl, rd_batI C (KT.same s1) rfl rfl hp ?_⟩
      refine ⟨p, CB, dx, _, _, rfl, s1 _ _ hpx, C.b, C.gone, rfl, _, rfl, ite_b (fun hg => ?_) fun hg => ?_⟩
      · refine ⟨_, rfl, _, upd_same, ?_, ?_⟩
        · have := thereTo_len a i
          rw [List.length_map, sizeLine_eq]
          omega
        · rw [upd_upd, e, if_pos hg, List.map_append, Int.zero_add]
          rfl
      · rw [e, if_neg (by rw [hg]; decide), List.append_nil]
    · rintro H' rfl
      exact q _ D (Same.new hD) hD upd_same
theorem sc_tell_live : FnScope ["kitchen"] ["kitchen"] (defScope s_tell_live) := ⟨rfl, rfl, rfl, by decide +kernel, rfl, by decide +kernel, by decide +kernel⟩
def sp_tell_live (CW CB CK : Addr) : Sp := fun vs H Q _ => spc CW CB CK [] .live vs H Q
theorem ok_tell_live (R : Raw K mg "tell_live" s_tell_live ["kitchen"]) (T : Cst mg) (C : Cl K CW CB CK) (Dco : Def P w K mg base 1 "counted" ["numbers"] sp_counted) (Dnt : Def P w K mg base 1 "numbers_there" ["kitchen"] (sp_numbers_there CW CB CK)) : Def P w K mg base 2 "tell_live" ["kitchen"] (sp_tell_live CW CB CK) := by
  refine R.ok sc_tell_live (fun vs H Q E h => ?_) (fun f cdv A outer s H vs Q E hr h => ?_)
  · obtain ⟨k, a, LW, LB, ws, bs, rfl, _⟩ := h
    rfl
  · obtain ⟨k, a, LW, LB, ws, bs, rfl, KT, q⟩ := h
    refine ⟨_, pss_one (ps_ret (pe_def Dco hr (pa_cons (pe_def Dnt hr (pa_cons (pv 0) pa_nil)) pa_nil))), ?_⟩
    have e0 : a.does .live = (a, Kv342.list (there a)) := rfl
    rw [e0] at q
    have h40 := KT.ok.bl
    have hl : (there a).length ≤ a.batches.length := thereTo_len a a.batches.length
    refine ⟨_, rfl, k, a, LW, LB, ws, bs, rfl, KT, fun H1 L1 s1 n1 h1 => ?_⟩
    refine ⟨L1, there a, rfl, h1, by omega, fun H2 p s2 np hp => ?_⟩
    exact q.at_ KT (s1.trans s2) (s1.free np) hp
theorem inV_ints {r : Nat} : ∀ l : List Nat, inV (I r) (l.map I) = decide (r ∈ l)
  | [] => rfl
  | x :: l => by
    have ih := inV_ints (r := r) l
    unfold inV at ih ⊢
    rw [List.map_cons, List.any_cons, ih]
    have e : eqV (I x) (I r) = decide (x = r) := by
      show ((((x : Nat) : Int)) == (((r : Nat) : Int))) = _
      rw [Bool.beq_eq_decide_eq]
      exact decide_eq_decide.mpr (by omega)
    rw [e, ← Bool.decide_or]
    exact decide_eq_decide.mpr (by rw [List.mem_cons]; exact or_congr_left eq_comm)
theorem flat_ints (l : List Nat) : (l.map I).all flatV = true := List.all_eq_true.mpr fun v hv => by
  obtain ⟨n, _, rfl⟩ := List.mem_map.mp hv
  rfl
theorem map_at {l : List Nat} {i : Nat} {v : V} (h : (l.map I)[i]? = some v) : ∃ b, l[i]? = some b ∧ v = I b := by
  rw [List.getElem?_map] at h
  cases e : l[i]? with
  | none => rw [e] at h; cases h
  | some b => rw [e] at h; exact ⟨b, rfl, (Option.some.inj h).symm⟩
theorem filt_snoc {p : Nat → Bool} {l : List Nat} {i b : Nat} (h : l[i]? = some b) : (l.take (i + 1)).filter p = (l.take i).filter p ++ if p b = true then [b] else [] := by
  rw [take_snocN h, List.filter_append, List.filter_cons, List.filter_nil]
theorem filt_len {p : Nat → Bool} {l : List Nat} {i : Nat} : ((l.take i).filter p).length ≤ l.length := Nat.le_trans (List.length_filter_le _ _) (by rw [List.length_take]; omega)
theorem sc_tell_of : FnScope ["kitchen", "r", "b"] ["kitchen", "r"] (defScope s_tell_of) := ⟨rfl, rfl, rfl, by decide +kernel, rfl, by decide +kernel, by decide +kernel⟩
def sp_tell_of (CW CB CK : Addr) : Sp := fun vs H Q _ => ∃ r : Nat, spc CW CB CK [I r] (.of_ r) vs H Q
theorem ok_tell_of (R : Raw K mg "tell_of" s_tell_of ["kitchen", "r"]) (T : Cst mg) (C : Cl K CW CB CK) (Dco : Def P w K mg base 1 "counted" ["numbers"] sp_counted) (Dnt : Def P w K mg base 1 "numbers_there" ["kitchen"] (sp_numbers_there CW CB CK)) : Def P w K mg base 2 "tell_of" ["kitchen", "r"] (sp_tell_of CW CB CK) := by
  refine R.ok sc_tell_of (fun vs H Q E h => ?_) (fun f cdv A outer s H vs Q E hr h => ?_)
  · obtain ⟨r, k, a, LW, LB, ws, bs, rfl, _⟩ := h
    rfl
  · obtain ⟨r, k, a, LW, LB, ws, bs, rfl, KT, q⟩ := h
    refine ⟨_, pss_cons (ps_if (pt_cmpR op_ge (pv 1) (pe_fld (pv 0) rfl) (nomark _)) (pss_one (ps_ret (pe_lst (pa_cons (pe_cst T.NO_SUCH) pa_nil)))) pss_nil)
      (pss_one (ps_ret (pe_def Dco hr (pa_cons (pe_lc (own := [("b", 2)]) (g := gName 2) (tt := tTest (tOp (rIn K false) (tVar 1) (tFld K (tOp (rIxL K) (tFld K (tVar 0) "batches") (tVar 2)) "roots"))) (te := tVar 2) rfl sc_tell_of.nd (pi_list (pe_def Dnt hr (pa_cons (pv 0) pa_nil))) (blkOk_by (by show blkC ["kitchen", "r", "b"] (defScope s_tell_of) _ [("b", 2)] = true; decide +kernel))
        (fun _ _ _ _ _ => pg_name (i := 2) sc_tell_of.nd rfl (Or.inl rfl)) (fun _ _ _ _ _ => pts_one (pt_cmpR op_in_seq (pv 1) (pe_fld (pe_ix ix_list (pe_fld (pv 0) rfl) (pv 2) (fun _ _ => rfl)) rfl) (by with_unfolding_all rfl))) (fun _ _ _ _ _ => pv 2)) pa_nil)))), ?_⟩
    obtain ⟨dk, hk⟩ := KT.kit
    refine ⟨_, rfl, _, rfl, k, CK, dk, _, _, rfl, hk, C.k, C.firsts, rfl, _, _, rfl, rfl, _, rfl, ite_d (fun h => ?_) fun h => ?_⟩
    · refine ⟨one_ok, fun p hp => ?_⟩
      have e : a.does (.of_ r) = (a, Kv342.say (-2)) := if_pos (by omega)
      rw [e] at q
      exact q.new KT (Same.refl H) hp
    have hf := KT.ok.f
    have h40 := KT.ok.bl
    have hl : (there a).length ≤ a.batches.length := thereTo_len a a.batches.length
    have e0 : a.does (.of_ r) = (a, Kv342.list ((there a).filter fun b => decide (r ∈ rootsOf (a.batch b).roots))) := by
      show (if a.firsts ≤ r then _ else _) = _
      rw [if_neg (by omega)]
      unfold there thereTo Kv342.Abs.all
      rw [List.filter_filter]
      have e : (fun b => !((a.batch b).gone) && Kv342.has (a.batch b).roots r) = fun b => decide (r ∈ rootsOf (a.batch b).roots) && !((a.batch b).gone) := funext fun b => by
        rw [Bool.and_comm]
        congr 1
        cases hh : Kv342.has (a.batch b).roots r with
        | true => exact (decide_eq_true ((mem_roots _ _).mpr ⟨by omega, hh⟩)).symm
        | false => exact (decide_eq_false fun m => by rw [((mem_roots _ _).mp m).2] at hh; cases hh).symm
      rw [e]
    rw [e0] at q
    refine ⟨_, rfl, k, a, LW, LB, ws, bs, rfl, KT, fun H1 L1 s1 n1 h1 => ?_⟩
    refine ⟨L1, rfl, ⟨_, SqL.of h1⟩, fun D hD => ?_⟩
    have sD : ∀ o, Same H1 (upd H1 D o) := fun o => Same.new hD
    refine lc_list (K := K) (a := L1) (xs := (there a).map I) (fun i H' => H' = upd H1 D (.lst ((((there a).take i).filter fun b => decide (r ∈ rootsOf (a.batch b).roots)).map I))) rfl (fun i H' _ e => by subst e; exact SqL.of (sD _ _ _ h1)) ?_ ?_
    · rintro i v H' hv rfl
      obtain ⟨b, hb, rfl⟩ := map_at hv
      have hlt := there_lt (List.mem_of_getElem? hb)
      obtain ⟨x, hx⟩ : ∃ x, a.batches[b]? = some x := ⟨_, List.getElem?_eq_getElem hlt⟩
      obtain ⟨p, sz, rt, hp, B⟩ := KT.ba b x hx
      obtain ⟨dx, hpx⟩ := B.at_
      have s2 := s1.trans (sD (.lst ((((there a).take i).filter fun b => decide (r ∈ rootsOf (a.batch b).roots)).map I)))
      have e := filt_snoc (p := fun b => decide (r ∈ rootsOf (a.batch b).roots)) hb
      rw [batch_at hx] at e
      refine ⟨rfl, _, rfl, rd_bat C (KT.same s2) rfl rfl hp ?_⟩
      refine ⟨p, CB, dx, _, _, rfl, s2 _ _ hpx, C.b, C.roots, rfl, rt, _, rfl, .inl (SqL.of (s2 _ _ B.rt)), rfl, flat_ints _, _, rfl, ?_⟩
      show if inV (I r) ((rootsOf x.roots).map I) = true then _ else _
      rw [inV_ints]
      refine ite_b (fun hg => ?_) fun hg => ?_
      · refine ⟨_, rfl, _, upd_same, ?_, ?_⟩
        · have := filt_len (p := fun b => decide (r ∈ rootsOf (a.batch b).roots)) (l := there a) (i := i)
          rw [List.length_map, sizeLine_eq]
          omega
        · rw [upd_upd, e, if_pos hg, List.map_append]
          rfl
      · rw [e, if_neg (by rw [hg]; decide), List.append_nil]
    · rintro H' rfl
      rw [List.length_map, List.take_length]
      have hf2 : ((there a).filter fun b => decide (r ∈ rootsOf (a.batch b).roots)).length ≤ (there a).length := List.length_filter_le _ _
      refine ⟨D, _, rfl, upd_same, by omega, fun H2 p s2 np hp => ?_⟩
      exact q.at_ KT ((s1.trans (sD _)).trans s2) ((s1.trans (sD _)).free np) hp
theorem sc_tell_roots : FnScope ["kitchen", "b"] ["kitchen", "b"] (defScope s_tell_roots) := ⟨rfl, rfl, rfl, by decide +kernel, rfl, by decide +kernel, by decide +kernel⟩
def sp_tell_roots (CW CB CK : Addr) : Sp := fun vs H Q _ => ∃ b : Nat, spc CW CB CK [I b] (.roots b) vs H Q
theorem ok_tell_roots (R : Raw K mg "tell_roots" s_tell_roots ["kitchen", "b"]) (T : Cst mg) (C : Cl K CW CB CK) (Dhb : Def P w K mg base 1 "has_batch" ["kitchen", "b"] (sp_has_batch CW CB CK)) (Dco : Def P w K mg base 1 "counted" ["numbers"] sp_counted) : Def P w K mg base 2 "tell_roots" ["kitchen", "b"] (sp_tell_roots CW CB CK) := by
  refine R.ok sc_tell_roots (fun vs H Q E h => ?_) (fun f cdv A outer s H vs Q E hr h => ?_)
  · obtain ⟨b, k, a, LW, LB, ws, bs, rfl, _⟩ := h
    rfl
  · obtain ⟨b, k, a, LW, LB, ws, bs, rfl, KT, q⟩ := h
    refine ⟨_, pss_cons (ps_if (pt_not (pt_val (pe_def Dhb hr (pa_cons (pv 0) (pa_cons (pv 1) pa_nil))))) (pss_one (ps_ret (pe_lst (pa_cons (pe_cst T.NO_SUCH) pa_nil)))) pss_nil)
      (pss_one (ps_ret (pe_def Dco hr (pa_cons (pe_fld (pe_ix ix_list (pe_fld (pv 0) rfl) (pv 1) (fun _ _ => rfl)) rfl) pa_nil)))), ?_⟩
    refine rd_hb KT rfl rfl (ite_nd (fun hb => ?_) fun hb => ?_)
    · refine ⟨one_ok, fun p hp => ?_⟩
      have e : a.does (.roots b) = (a, Kv342.say (-2)) := by show (if a.has b = false then _ else _) = _; rw [has_f hb, if_pos rfl]
      rw [e] at q
      exact q.new KT (Same.refl H) hp
    obtain ⟨x, hx⟩ : ∃ x, a.batches[b]? = some x := ⟨_, List.getElem?_eq_getElem hb⟩
    obtain ⟨p, sz, rt, hp, B⟩ := KT.ba b x hx
    obtain ⟨dx, hpx⟩ := B.at_
    have e0 : a.does (.roots b) = (a, Kv342.list (rootsOf x.roots)) := by
      show (if a.has b = false then _ else _) = _
      rw [has_t hb, if_neg (by decide), batch_at hx]
      rfl
    rw [e0] at q
    have h12 : (rootsOf x.roots).length ≤ 12 := Nat.le_trans (List.length_filter_le _ _) (Nat.le_of_eq List.length_range)
    refine rd_bat C KT rfl rfl hp ?_
    refine ⟨p, CB, dx, _, _, rfl, hpx, C.b, C.roots, rfl, rt, rootsOf x.roots, rfl, B.rt, by omega, fun H2 r s2 np hp => ?_⟩
    exact q.at_ KT s2 np hp
theorem sc_tell_raw : FnScope ["kitchen", "there", "b"] ["kitchen"] (defScope s_tell_raw) := ⟨rfl, rfl, rfl, by decide +kernel, rfl, by decide +kernel, by decide +kernel⟩
def sp_tell_raw (CW CB CK : Addr) : Sp := fun vs H Q _ => spc CW CB CK [] .raw vs H Q
theorem ok_tell_raw (R : Raw K mg "tell_raw" s_tell_raw ["kitchen"]) (T : Cst mg) (C : Cl K CW CB CK) (Dle : Def P w K mg base 1 "is_little_enough" ["kitchen", "alive"] (sp_is_little_enough CW CB CK)) (Dco : Def P w K mg base 1 "counted" ["numbers"] sp_counted) (Dnt : Def P w K mg base 1 "numbers_there" ["kitchen"] (sp_numbers_there CW CB CK)) : Def P w K mg base 2 "tell_raw" ["kitchen"] (sp_tell_raw CW CB CK) := by
  refine R.ok sc_tell_raw (fun vs H Q E h => ?_) (fun f cdv A outer s H vs Q E hr h => ?_)
  · obtain ⟨k, a, LW, LB, ws, bs, rfl, _⟩ := h
    rfl
  · obtain ⟨k, a, LW, LB, ws, bs, rfl, KT, q⟩ := h
    refine ⟨_, pss_cons (ps_set (i := 1) sc_tell_raw.nd rfl (Or.inl rfl) (pe_def Dnt hr (pa_cons (pv 0) pa_nil)))
      (pss_one (ps_ret (pe_def Dco hr (pa_cons (pe_lc (own := [("b", 2)]) (g := gName 2) (tt := tNot (tB (tCall (sp_is_little_enough CW CB CK) [] E0 (tCons (tVar 0) (tCons (tFld K (tOp (rIxL K) (tFld K (tVar 0) "batches") (tVar 2)) "alive") tNil))))) (te := tVar 2) rfl sc_tell_raw.nd (pi_list (pv 1)) (blkOk_by (by show blkC ["kitchen", "there", "b"] (defScope s_tell_raw) _ [("b", 2)] = true; decide +kernel))
        (fun _ _ _ _ _ => pg_name (i := 2) sc_tell_raw.nd rfl (Or.inl rfl)) (fun _ _ _ _ _ => pts_one (pt_not (pt_val (pe_def Dle hr (pa_cons (pv 0) (pa_cons (pe_fld (pe_ix ix_list (pe_fld (pv 0) rfl) (pv 2) (fun _ _ => rfl)) rfl) pa_nil)))))) (fun _ _ _ _ _ => pv 2)) pa_nil)))), ?_⟩
    have h40 := KT.ok.bl
    have hl : (there a).length ≤ a.batches.length := thereTo_len a a.batches.length
    have e0 : a.does .raw = (a, Kv342.list ((there a).filter fun b => !decide ((a.batch b).alive ≤ a.limit))) := by
      show (a, Kv342.list (a.all.filter fun b => !((a.batch b).gone) && decide (a.limit < (a.batch b).alive))) = _
      unfold there thereTo Kv342.Abs.all
      rw [List.filter_filter]
      have e : (fun b => !((a.batch b).gone) && decide (a.limit < (a.batch b).alive)) = fun b => !decide ((a.batch b).alive ≤ a.limit) && !((a.batch b).gone) := funext fun b => by
        rw [Bool.and_comm]
        congr 1
        by_cases h : (a.batch b).alive ≤ a.limit
        · rw [decide_eq_true h, decide_eq_false (by omega)]
          rfl
        · rw [decide_eq_false h, decide_eq_true (by omega)]
          rfl
      rw [e]
    rw [e0] at q
    refine ⟨_, rfl, k, a, LW, LB, ws, bs, rfl, KT, fun H1 L1 s1 n1 h1 => ?_⟩
    refine ⟨_, rfl, L1, rfl, ⟨_, SqL.of h1⟩, fun D hD => ?_⟩
    have sD : ∀ o, Same H1 (upd H1 D o) := fun o => Same.new hD
    refine lc_list (K := K) (a := L1) (xs := (there a).map I) (fun i H' => H' = upd H1 D (.lst ((((there a).take i).filter fun b => !decide ((a.batch b).alive ≤ a.limit)).map I))) rfl (fun i H' _ e => by subst e; exact SqL.of (sD _ _ _ h1)) ?_ ?_
    · rintro i v H' hv rfl
      obtain ⟨b, hb, rfl⟩ := map_at hv
      have hlt := there_lt (List.mem_of_getElem? hb)
      obtain ⟨x, hx⟩ : ∃ x, a.batches[b]? = some x := ⟨_, List.getElem?_eq_getElem hlt⟩
      obtain ⟨p, sz, rt, hp, B⟩ := KT.ba b x hx
      obtain ⟨dx, hpx⟩ := B.at_
      have s2 := s1.trans (sD (.lst ((((there a).take i).filter fun b => !decide ((a.batch b).alive ≤ a.limit)).map I)))
      have e := filt_snoc (p := fun b => !decide ((a.batch b).alive ≤ a.limit)) hb
      rw [batch_at hx] at e
      refine ⟨rfl, _, rfl, rd_bat C (KT.same s2) rfl rfl hp ?_⟩
      refine ⟨p, CB, dx, _, _, rfl, s2 _ _ hpx, C.b, C.alive, rfl, k, a, x.alive, rfl, ⟨LW, LB, ws, bs, KT.same s2⟩, _, rfl, ite_b (fun hg => ?_) fun hg => ?_⟩
      · refine ⟨_, rfl, _, upd_same, ?_, ?_⟩
        · have := filt_len (p := fun b => !decide ((a.batch b).alive ≤ a.limit)) (l := there a) (i := i)
          rw [List.length_map, sizeLine_eq]
          omega
        · rw [upd_upd, e, if_pos hg, List.map_append]
          rfl
      · rw [e, if_neg (by rw [hg]; decide), List.append_nil]
    · rintro H' rfl
      rw [List.length_map, List.take_length]
      have hf2 : ((there a).filter fun b => !decide ((a.batch b).alive ≤ a.limit)).length ≤ (there a).length := List.length_filter_le _ _
      refine ⟨D, _, rfl, upd_same, by omega, fun H2 p s2 np hp => ?_⟩
      exact q.at_ KT ((s1.trans (sD _)).trans s2) ((s1.trans (sD _)).free np) hp
end
end Bl
end
section
set_option Elab.async false
set_option linter.all false
set_option maxRecDepth 100000
set_option maxHeartbeats 2000000
namespace Bl
open PySem PySem.Spec PyProof.Rows L2
section
variable {P : Program} {w : World} {K : PySem.W.Frag} {mg : Str → Option Value} {base : Heap} {CW CB CK : Addr} {H H' H1 : Hp} {k : Addr} {a a' : Kv342.Abs} {LW LB : Addr} {ws : List Addr} {bs : List (Addr × Addr × Addr)} {σ : L2.St} {F : List Addr} {S : Kv342.State}
/-- a batch's object -/
def ad (bs : List (Addr × Addr × Addr)) (b : Nat) : Addr := (bs.getD b (0, 0, 0)).1
theorem ad_at {b : Nat} {p sz rt : Addr} (h : bs[b]? = some (p, sz, rt)) : ad bs b = p := by
  unfold ad
  rw [List.getD_eq_getElem?_getD, h]
  rfl
/-- what a batch weighs, its waste with it -/
def heavy (x : Kv342.Batch) : Nat := x.kg + x.waste
theorem there_sum (a : Kv342.Abs) : (there a).map (fun b => heavy (a.batch b)) = (a.batches.filter fun x => !(x.gone)).map fun x => x.kg + x.waste := by
  have e : (List.range a.batches.length).map (fun b => a.batch b) = a.batches := by
    refine List.ext_getElem? fun i => ?_
    rw [List.getElem?_map]
    by_cases h : i < a.batches.length
    · rw [List.getElem?_range h, List.getElem?_eq_getElem h]
      show some (a.batch i) = _
      rw [batch_at (List.getElem?_eq_getElem h)]
    · rw [List.getElem?_eq_none (by rw [List.length_range]; omega), List.getElem?_eq_none (by omega)]
      rfl
  conv => rhs; rw [← e]
  rw [List.filter_map, List.map_map]
  rfl
def sp_kilograms_there (CW CB CK : Addr) : Sp := fun vs H Q _ => ∃ (k : Addr) (a : Kv342.Abs) (LW LB : Addr) (ws : List Addr) (bs : List (Addr × Addr × Addr)), vs = [.ref k] ∧ Kit CW CB CK H k a LW LB ws bs ∧
  ∀ H' : Hp, Same H H' → Q (I ((a.batches.filter fun x => !(x.gone)).map fun x => x.kg + x.waste).sum) H'
theorem sc_kilograms_there : FnScope ["kitchen", "batches", "b", "batch"] ["kitchen"] (defScope s_kilograms_there) := ⟨rfl, rfl, rfl, by decide +kernel, rfl, by decide +kernel, by decide +kernel⟩
theorem ok_kilograms_there (R : Raw K mg "kilograms_there" s_kilograms_there ["kitchen"]) (T : Cst mg) (C : Cl K CW CB CK) (Dkg : Def P w K mg base 1 "kilograms" ["batch"] (sp_kilograms CB)) (Dnt : Def P w K mg base 1 "numbers_there" ["kitchen"] (sp_numbers_there CW CB CK)) : Def P w K mg base 2 "kilograms_there" ["kitchen"] (sp_kilograms_there CW CB CK) := by
  refine R.ok sc_kilograms_there (fun vs H Q E h => ?_) (fun f cdv A outer s H vs Q E hr h => ?_)
  · obtain ⟨k, a, LW, LB, ws, bs, rfl, _⟩ := h
    rfl
  · obtain ⟨k, a, LW, LB, ws, bs, rfl, KT, q⟩ := h
    refine ⟨_, pss_cons (ps_setLc (i := 1) (own := [("b", 2)]) (g := gName 2) (tt := tYes) (te := tOp (rIxL K) (tFld K (tVar 0) "batches") (tVar 2)) rfl sc_kilograms_there.nd rfl rfl (sw_true rfl rfl rfl (by decide +kernel)) (pi_list (pe_def Dnt hr (pa_cons (pv 0) pa_nil))) (blkOk_by (by show blkC ["kitchen", "batches", "b", "batch"] (defScope s_kilograms_there) _ [("b", 2)] = true; decide +kernel))
        (fun _ _ _ _ _ => pg_name (i := 2) sc_kilograms_there.nd rfl (Or.inl rfl)) (fun _ _ _ _ _ => pts_nil) (fun _ _ _ _ _ => pe_ix ix_list (pe_fld (pv 0) rfl) (pv 2) (fun _ _ => rfl)))
      (pss_one (ps_ret (pe_callB (cr_sum rfl) (by rfl) T.sum PyProof.Rows.boot_sum (pa_cons (pe_lc (own := [("batch", 3)]) (g := gName 3) (tt := tYes) (te := tOp (rI0 fun i j => .int (i + j)) (tCall (sp_kilograms CB) [] E0 (tCons (tVar 3) tNil)) (tFld K (tVar 3) "waste")) rfl sc_kilograms_there.nd (pi_list (pv 1)) (blkOk_by (by show blkC ["kitchen", "batches", "b", "batch"] (defScope s_kilograms_there) _ [("batch", 3)] = true; decide +kernel))
        (fun _ _ _ _ _ => pg_name (i := 3) sc_kilograms_there.nd rfl (Or.inl rfl)) (fun _ _ _ _ _ => pts_nil) (fun _ _ _ _ _ => pe_op op_add (pe_def Dkg hr (pa_cons (pv 3) pa_nil)) (pe_fld (pv 3) rfl))) pa_nil)))), ?_⟩
    have h40 := KT.ok.bl
    have hl : (there a).length ≤ a.batches.length := thereTo_len a a.batches.length
    refine ⟨_, rfl, k, a, LW, LB, ws, bs, rfl, KT, fun H1 L1 s1 n1 h1 => ?_⟩
    refine ⟨L1, rfl, ⟨_, SqL.of h1⟩, fun D hD => ?_⟩
    have sD : ∀ o, Same H1 (upd H1 D o) := fun o => Same.new hD
    refine lc_list (K := K) (a := L1) (xs := (there a).map I) (fun i H' => H' = upd H1 D (.lst (((there a).take i).map fun b => V.ref (ad bs b)))) rfl (fun i H' _ e => by subst e; exact SqL.of (sD _ _ _ h1)) ?_ ?_
    · rintro i v H' hv rfl
      obtain ⟨b, hb, rfl⟩ := map_at hv
      have hlt := there_lt (List.mem_of_getElem? hb)
      obtain ⟨x, hx⟩ : ∃ x, a.batches[b]? = some x := ⟨_, List.getElem?_eq_getElem hlt⟩
      obtain ⟨p, sz, rt, hp, B⟩ := KT.ba b x hx
      have s2 := s1.trans (sD (.lst (((there a).take i).map fun b => V.ref (ad bs b))))
      refine ⟨rfl, ?_⟩
      unfold tYes
      dsimp only
      rw [if_pos rfl]
      refine rd_bat C (KT.same s2) rfl rfl hp ⟨_, upd_same, ?_, ?_⟩
      · rw [List.length_map, List.length_take, sizeLine_eq]
        omega
      · rw [upd_upd, take_snocN hb, List.map_append, ← ad_at hp]
        rfl
    · rintro H' rfl
      rw [List.length_map, List.take_length]
      have s2 := s1.trans (sD (.lst ((there a).map fun b => V.ref (ad bs b))))
      refine ⟨_, rfl, D, rfl, ⟨_, SqL.of upd_same⟩, fun D2 hD2 => ?_⟩
      have sD2 : ∀ o, Same (upd H1 D (.lst ((there a).map fun b => V.ref (ad bs b)))) (upd (upd H1 D (.lst ((there a).map fun b => V.ref (ad bs b)))) D2 o) := fun o => Same.new hD2
      refine lc_list (K := K) (a := D) (xs := (there a).map fun b => V.ref (ad bs b)) (fun i H' => H' = upd (upd H1 D (.lst ((there a).map fun b => V.ref (ad bs b)))) D2 (.lst ((((there a).take i).map fun b => heavy (a.batch b)).map I))) rfl (fun i H' _ e => by subst e; exact SqL.of (sD2 _ _ _ upd_same)) ?_ ?_
      · rintro i v H' hv rfl
        obtain ⟨b, hb, rfl⟩ : ∃ b, (there a)[i]? = some b ∧ v = V.ref (ad bs b) := by
          rw [List.getElem?_map] at hv
          cases e : (there a)[i]? with
          | none => rw [e] at hv; cases hv
          | some b => rw [e] at hv; exact ⟨b, rfl, (Option.some.inj hv).symm⟩
        have hlt := there_lt (List.mem_of_getElem? hb)
        obtain ⟨x, hx⟩ : ∃ x, a.batches[b]? = some x := ⟨_, List.getElem?_eq_getElem hlt⟩
        obtain ⟨p, sz, rt, hp, B⟩ := KT.ba b x hx
        obtain ⟨dx, hpx⟩ := B.at_
        rw [ad_at hp]
        have s3 := s2.trans (sD2 (.lst ((((there a).take i).map fun b => heavy (a.batch b)).map I)))
        refine ⟨rfl, ?_⟩
        unfold tYes
        dsimp only
        rw [if_pos rfl]
        refine ⟨_, rfl, p, sz, rt, x, rfl, B.same s3, _, rfl, p, CB, dx, _, _, rfl, s3 _ _ hpx, C.b, C.waste, rfl, _, _, rfl, rfl, _, upd_same, ?_, ?_⟩
        · rw [List.length_map, List.length_map, List.length_take, sizeLine_eq]
          omega
        · rw [upd_upd, take_snocN hb, List.map_append, List.map_append]
          show _ = upd _ D2 (.lst (_ ++ [I (heavy (a.batch b))]))
          rw [batch_at hx]
          rfl
      · rintro H' rfl
        rw [List.length_map, List.take_length]
        refine ⟨D2, ((there a).map fun b => heavy (a.batch b)).map (fun k => ((k : Nat) : Int)), rfl, SqL.of (by rw [← map_I]; exact upd_same), ?_⟩
        rw [sum_ints, there_sum]
        exact q _ (s2.trans (sD2 _))
theorem sc_tell_sums : FnScope ["kitchen"] ["kitchen"] (defScope s_tell_sums) := ⟨rfl, rfl, rfl, by decide +kernel, rfl, by decide +kernel, by decide +kernel⟩
def sp_tell_sums (CW CB CK : Addr) : Sp := fun vs H Q _ => spc CW CB CK [] .sums vs H Q
theorem ok_tell_sums (R : Raw K mg "tell_sums" s_tell_sums ["kitchen"]) (T : Cst mg) (C : Cl K CW CB CK) (Dkt : Def P w K mg base 2 "kilograms_there" ["kitchen"] (sp_kilograms_there CW CB CK)) : Def P w K mg base 3 "tell_sums" ["kitchen"] (sp_tell_sums CW CB CK) := by
  refine R.ok sc_tell_sums (fun vs H Q E h => ?_) (fun f cdv A outer s H vs Q E hr h => ?_)
  · obtain ⟨k, a, LW, LB, ws, bs, rfl, _⟩ := h
    rfl
  · obtain ⟨k, a, LW, LB, ws, bs, rfl, KT, q⟩ := h
    refine ⟨_, pss_one (ps_ret (pe_lst (pa_cons pe_int (pa_cons (pe_fld (pv 0) rfl) (pa_cons (pe_fld (pv 0) rfl) (pa_cons (pe_def Dkt hr (pa_cons (pv 0) pa_nil)) (pa_cons (pe_fld (pv 0) rfl) pa_nil))))))), ?_⟩
    obtain ⟨dk, hk⟩ := KT.kit
    refine ⟨_, rfl, k, CK, dk, _, _, rfl, hk, C.k, C.came, rfl, _, rfl, k, CK, dk, _, _, rfl, hk, C.k, C.washed, rfl, _, rfl, k, a, LW, LB, ws, bs, rfl, KT, fun H1 s1 => ?_⟩
    refine ⟨_, rfl, k, CK, dk, _, _, rfl, s1 _ _ hk, C.k, C.packed, rfl, (by show 5 ≤ sizeLine; decide), fun r hr' => ?_⟩
    exact q.new KT s1 hr'
theorem sc_tell_state : FnScope ["kitchen"] ["kitchen"] (defScope s_tell_state) := ⟨rfl, rfl, rfl, by decide +kernel, rfl, by decide +kernel, by decide +kernel⟩
def sp_tell_state (CW CB CK : Addr) : Sp := fun vs H Q _ => spc CW CB CK [] .state vs H Q
theorem ok_tell_state (R : Raw K mg "tell_state" s_tell_state ["kitchen"]) (T : Cst mg) (C : Cl K CW CB CK) : Def P w K mg base 1 "tell_state" ["kitchen"] (sp_tell_state CW CB CK) := by
  refine R.ok sc_tell_state (fun vs H Q E h => ?_) (fun f cdv A outer s H vs Q E hr h => ?_)
  · obtain ⟨k, a, LW, LB, ws, bs, rfl, _⟩ := h
    rfl
  · obtain ⟨k, a, LW, LB, ws, bs, rfl, KT, q⟩ := h
    refine ⟨_, pss_one (ps_ret (pe_lst (pa_cons pe_int (pa_cons (pe_fld (pv 0) rfl) (pa_cons (pe_callB call_len_seq (by rfl) T.len PySem.boot_len (pa_cons (pe_fld (pv 0) rfl) pa_nil)) (pa_cons (pe_callB call_len_seq (by rfl) T.len PySem.boot_len (pa_cons (pe_fld (pv 0) rfl) pa_nil)) (pa_cons (pe_fld (pv 0) rfl) pa_nil))))))), ?_⟩
    obtain ⟨dk, hk⟩ := KT.kit
    refine ⟨_, rfl, k, CK, dk, _, _, rfl, hk, C.k, C.limit, rfl, _, rfl, k, CK, dk, _, _, rfl, hk, C.k, C.warmths, rfl, LW, _, rfl, .inl (SqL.of KT.lw), _, rfl, k, CK, dk, _, _, rfl, hk, C.k, C.batches, rfl, LB, _, rfl, .inl (SqL.of KT.lb), _, rfl, k, CK, dk, _, _, rfl, hk, C.k, C.firsts, rfl, (by show 5 ≤ sizeLine; decide), fun r hr' => ?_⟩
    rw [List.length_map, List.length_map, KT.wl, KT.bl]
    exact q.new KT (Same.refl H) hr'
end
end Bl
end
section
set_option Elab.async false
set_option linter.all false
set_option maxRecDepth 100000
set_option maxHeartbeats 2000000
namespace Bl
open PySem PySem.Spec PyProof.Rows L2
section
variable {P : Program} {w : World} {K : PySem.W.Frag} {mg : Str → Option Value} {base : Heap} {CW CB CK : Addr} {H H' H1 : Hp} {k : Addr} {a a' : Kv342.Abs} {LW LB : Addr} {ws : List Addr} {bs : List (Addr × Addr × Addr)} {σ : L2.St} {F : List Addr} {S : Kv342.State}
/-- the promise of a def that answers some of the calls -/
def spk (CW CB CK : Addr) (p : Kv342.Call → Bool) : Sp := fun vs H Q _ => ∃ (k c : Addr) (a : Kv342.Abs) (LW LB : Addr) (ws : List Addr) (bs : List (Addr × Addr × Addr)) (sl : List Int) (cl : Kv342.Call), vs = [.ref k, .ref c] ∧ IsCall sl cl ∧ p cl = true ∧ H c = some (Ls sl) ∧ Kit CW CB CK H k a LW LB ws bs ∧
  Post CW CB CK H k (foot k LW LB ws bs) (a.does cl).1 (Kv342Neutral.row (a.does cl).2) Q
def is_look : Kv342.Call → Bool
  | .alive _ | .would _ _ _ | .need _ _ | .leaves _ _ | .best _ | .hotter _ _ | .half _ => true
  | _ => false
theorem sc_answer_look : FnScope ["kitchen", "call", "number"] ["kitchen", "call"] (defScope s_answer_look) := ⟨rfl, rfl, rfl, by decide +kernel, rfl, by decide +kernel, by decide +kernel⟩
theorem ok_answer_look (R : Raw K mg "answer_look" s_answer_look ["kitchen", "call"]) (T : Cst mg)
    (D0 : Def P w K mg base 2 "tell_alive" ["kitchen", "b"] (sp_tell_alive CW CB CK))
    (D1 : Def P w K mg base 4 "tell_would" ["kitchen", "b", "w", "s"] (sp_tell_would CW CB CK))
    (D2 : Def P w K mg base 4 "tell_need" ["kitchen", "b", "w"] (sp_tell_need CW CB CK))
    (D3 : Def P w K mg base 4 "tell_leaves" ["kitchen", "b", "w"] (sp_tell_leaves CW CB CK))
    (D4 : Def P w K mg base 4 "tell_best" ["kitchen", "b"] (sp_tell_best CW CB CK))
    (D5 : Def P w K mg base 2 "tell_hotter" ["kitchen", "v", "w"] (sp_tell_hotter CW CB CK))
    (D6 : Def P w K mg base 3 "tell_half" ["kitchen", "w"] (sp_tell_half CW CB CK))
    : Def P w K mg base 5 "answer_look" ["kitchen", "call"] (spk CW CB CK is_look) := by
  refine R.ok sc_answer_look (fun vs H Q E h => ?_) (fun f cdv A outer s H vs Q E hr h => ?_)
  · obtain ⟨k, c, a, LW, LB, ws, bs, sl, cl, rfl, _⟩ := h
    rfl
  · obtain ⟨k, c, a, LW, LB, ws, bs, sl, cl, rfl, hc, hch, hl, KT, q⟩ := h
    have r1 : Room 1 _ := hr.mono (by decide)
    have r2 : Room 2 _ := hr.mono (by decide)
    have r3 : Room 3 _ := hr.mono (by decide)
    have r4 : Room 4 _ := hr.mono (by decide)
    refine ⟨_, pss_cons (ps_set (i := 2) sc_answer_look.nd rfl (Or.inl rfl) (pe_ix ix_list (pv 1) pe_int (fun _ _ => rfl)))
      (pss_cons (ps_if (pt_cmpR op_eq (pv 2) (pe_cst T.ALIVE) (nomark _)) (pss_one (ps_ret (pe_def D0 r2 (pa_cons (pv 0) (pa_cons (pe_ix ix_list (pv 1) pe_int (fun _ _ => rfl)) pa_nil))))) pss_nil)
      (pss_cons (ps_if (pt_cmpR op_eq (pv 2) (pe_cst T.WOULD) (nomark _)) (pss_one (ps_ret (pe_def D1 r4 (pa_cons (pv 0) (pa_cons (pe_ix ix_list (pv 1) pe_int (fun _ _ => rfl)) (pa_cons (pe_ix ix_list (pv 1) pe_int (fun _ _ => rfl)) (pa_cons (pe_ix ix_list (pv 1) pe_int (fun _ _ => rfl)) pa_nil))))))) pss_nil)
      (pss_cons (ps_if (pt_cmpR op_eq (pv 2) (pe_cst T.NEED) (nomark _)) (pss_one (ps_ret (pe_def D2 r4 (pa_cons (pv 0) (pa_cons (pe_ix ix_list (pv 1) pe_int (fun _ _ => rfl)) (pa_cons (pe_ix ix_list (pv 1) pe_int (fun _ _ => rfl)) pa_nil)))))) pss_nil)
      (pss_cons (ps_if (pt_cmpR op_eq (pv 2) (pe_cst T.LEAVES) (nomark _)) (pss_one (ps_ret (pe_def D3 r4 (pa_cons (pv 0) (pa_cons (pe_ix ix_list (pv 1) pe_int (fun _ _ => rfl)) (pa_cons (pe_ix ix_list (pv 1) pe_int (fun _ _ => rfl)) pa_nil)))))) pss_nil)
      (pss_cons (ps_if (pt_cmpR op_eq (pv 2) (pe_cst T.BEST) (nomark _)) (pss_one (ps_ret (pe_def D4 r4 (pa_cons (pv 0) (pa_cons (pe_ix ix_list (pv 1) pe_int (fun _ _ => rfl)) pa_nil))))) pss_nil)
      (pss_cons (ps_if (pt_cmpR op_eq (pv 2) (pe_cst T.HOTTER) (nomark _)) (pss_one (ps_ret (pe_def D5 r2 (pa_cons (pv 0) (pa_cons (pe_ix ix_list (pv 1) pe_int (fun _ _ => rfl)) (pa_cons (pe_ix ix_list (pv 1) pe_int (fun _ _ => rfl)) pa_nil)))))) pss_nil)
      (pss_one (ps_ret (pe_def D6 r3 (pa_cons (pv 0) (pa_cons (pe_ix ix_list (pv 1) pe_int (fun _ _ => rfl)) pa_nil))))))))))), ?_⟩
    cases hc with
    | alive u =>
      refine ⟨_, rfl, c, _, _, _, rfl, rfl, SqL.of hl, at_of (j := 0) rfl rfl, ?_⟩
      refine ⟨_, rfl, rfl, _, rfl, iteY ?_⟩
      refine ⟨_, rfl, _, rfl, c, _, _, _, rfl, rfl, SqL.of hl, at_of (j := 1) rfl rfl, ?_⟩
      exact ⟨u, k, a, LW, LB, ws, bs, rfl, KT, q⟩
    | would u v x =>
      refine ⟨_, rfl, c, _, _, _, rfl, rfl, SqL.of hl, at_of (j := 0) rfl rfl, ?_⟩
      refine ⟨_, rfl, rfl, _, rfl, iteN (by decide) ?_⟩
      refine ⟨_, rfl, rfl, _, rfl, iteY ?_⟩
      refine ⟨_, rfl, _, rfl, c, _, _, _, rfl, rfl, SqL.of hl, at_of (j := 1) rfl rfl, _, rfl, c, _, _, _, rfl, rfl, SqL.of hl, at_of (j := 2) rfl rfl, _, rfl, c, _, _, _, rfl, rfl, SqL.of hl, at_of (j := 3) rfl rfl, ?_⟩
      exact ⟨u, v, x, k, a, LW, LB, ws, bs, rfl, KT, q⟩
    | need u v =>
      refine ⟨_, rfl, c, _, _, _, rfl, rfl, SqL.of hl, at_of (j := 0) rfl rfl, ?_⟩
      refine ⟨_, rfl, rfl, _, rfl, iteN (by decide) ?_⟩
      refine ⟨_, rfl, rfl, _, rfl, iteN (by decide) ?_⟩
      refine ⟨_, rfl, rfl, _, rfl, iteY ?_⟩
      refine ⟨_, rfl, _, rfl, c, _, _, _, rfl, rfl, SqL.of hl, at_of (j := 1) rfl rfl, _, rfl, c, _, _, _, rfl, rfl, SqL.of hl, at_of (j := 2) rfl rfl, ?_⟩
      exact ⟨u, v, k, a, LW, LB, ws, bs, rfl, KT, q⟩
    | leaves u v =>
      refine ⟨_, rfl, c, _, _, _, rfl, rfl, SqL.of hl, at_of (j := 0) rfl rfl, ?_⟩
      refine ⟨_, rfl, rfl, _, rfl, iteN (by decide) ?_⟩
      refine ⟨_, rfl, rfl, _, rfl, iteN (by decide) ?_⟩
      refine ⟨_, rfl, rfl, _, rfl, iteN (by decide) ?_⟩
      refine ⟨_, rfl, rfl, _, rfl, iteY ?_⟩
      refine ⟨_, rfl, _, rfl, c, _, _, _, rfl, rfl, SqL.of hl, at_of (j := 1) rfl rfl, _, rfl, c, _, _, _, rfl, rfl, SqL.of hl, at_of (j := 2) rfl rfl, ?_⟩
      exact ⟨u, v, k, a, LW, LB, ws, bs, rfl, KT, q⟩
    | best u =>
      refine ⟨_, rfl, c, _, _, _, rfl, rfl, SqL.of hl, at_of (j := 0) rfl rfl, ?_⟩
      refine ⟨_, rfl, rfl, _, rfl, iteN (by decide) ?_⟩
      refine ⟨_, rfl, rfl, _, rfl, iteN (by decide) ?_⟩
      refine ⟨_, rfl, rfl, _, rfl, iteN (by decide) ?_⟩
      refine ⟨_, rfl, rfl, _, rfl, iteN (by decide) ?_⟩
      refine ⟨_, rfl, rfl, _, rfl, iteY ?_⟩
      refine ⟨_, rfl, _, rfl, c, _, _, _, rfl, rfl, SqL.of hl, at_of (j := 1) rfl rfl, ?_⟩
      exact ⟨u, k, a, LW, LB, ws, bs, rfl, KT, q⟩
    | hotter u v =>
      refine ⟨_, rfl, c, _, _, _, rfl, rfl, SqL.of hl, at_of (j := 0) rfl rfl, ?_⟩
      refine ⟨_, rfl, rfl, _, rfl, iteN (by decide) ?_⟩
      refine ⟨_, rfl, rfl, _, rfl, iteN (by decide) ?_⟩
      refine ⟨_, rfl, rfl, _, rfl, iteN (by decide) ?_⟩
      refine ⟨_, rfl, rfl, _, rfl, iteN (by decide) ?_⟩
      refine ⟨_, rfl, rfl, _, rfl, iteN (by decide) ?_⟩
      refine ⟨_, rfl, rfl, _, rfl, iteY ?_⟩
      refine ⟨_, rfl, _, rfl, c, _, _, _, rfl, rfl, SqL.of hl, at_of (j := 1) rfl rfl, _, rfl, c, _, _, _, rfl, rfl, SqL.of hl, at_of (j := 2) rfl rfl, ?_⟩
      exact ⟨u, v, k, a, LW, LB, ws, bs, rfl, KT, q⟩
    | half u =>
      refine ⟨_, rfl, c, _, _, _, rfl, rfl, SqL.of hl, at_of (j := 0) rfl rfl, ?_⟩
      refine ⟨_, rfl, rfl, _, rfl, iteN (by decide) ?_⟩
      refine ⟨_, rfl, rfl, _, rfl, iteN (by decide) ?_⟩
      refine ⟨_, rfl, rfl, _, rfl, iteN (by decide) ?_⟩
      refine ⟨_, rfl, rfl, _, rfl, iteN (by decide) ?_⟩
      refine ⟨_, rfl, rfl, _, rfl, iteN (by decide) ?_⟩
      refine ⟨_, rfl, rfl, _, rfl, iteN (by decide) ?_⟩
      refine ⟨_, rfl, _, rfl, c, _, _, _, rfl, rfl, SqL.of hl, at_of (j := 1) rfl rfl, ?_⟩
      exact ⟨u, k, a, LW, LB, ws, bs, rfl, KT, q⟩
    | _ => cases hch
def is_measure : Kv342.Call → Bool
  | .done _ | .kg _ | .sizes _ | .mean _ | .parts _ _ => true
  | _ => false
theorem sc_answer_measure : FnScope ["kitchen", "call", "number"] ["kitchen", "call"] (defScope s_answer_measure) := ⟨rfl, rfl, rfl, by decide +kernel, rfl, by decide +kernel, by decide +kernel⟩
theorem ok_answer_measure (R : Raw K mg "answer_measure" s_answer_measure ["kitchen", "call"]) (T : Cst mg)
    (D0 : Def P w K mg base 3 "tell_done" ["kitchen", "b"] (sp_tell_done CW CB CK))
    (D1 : Def P w K mg base 2 "tell_kilograms" ["kitchen", "b"] (sp_tell_kilograms CW CB CK))
    (D2 : Def P w K mg base 2 "tell_sizes" ["kitchen", "b"] (sp_tell_sizes CW CB CK))
    (D3 : Def P w K mg base 2 "tell_mean" ["kitchen", "b"] (sp_tell_mean CW CB CK))
    (D4 : Def P w K mg base 2 "tell_parts" ["kitchen", "b", "m"] (sp_tell_parts CW CB CK))
    : Def P w K mg base 4 "answer_measure" ["kitchen", "call"] (spk CW CB CK is_measure) := by
  refine R.ok sc_answer_measure (fun vs H Q E h => ?_) (fun f cdv A outer s H vs Q E hr h => ?_)
  · obtain ⟨k, c, a, LW, LB, ws, bs, sl, cl, rfl, _⟩ := h
    rfl
  · obtain ⟨k, c, a, LW, LB, ws, bs, sl, cl, rfl, hc, hch, hl, KT, q⟩ := h
    have r1 : Room 1 _ := hr.mono (by decide)
    have r2 : Room 2 _ := hr.mono (by decide)
    have r3 : Room 3 _ := hr.mono (by decide)
    refine ⟨_, pss_cons (ps_set (i := 2) sc_answer_measure.nd rfl (Or.inl rfl) (pe_ix ix_list (pv 1) pe_int (fun _ _ => rfl)))
      (pss_cons (ps_if (pt_cmpR op_eq (pv 2) (pe_cst T.DONE) (nomark _)) (pss_one (ps_ret (pe_def D0 r3 (pa_cons (pv 0) (pa_cons (pe_ix ix_list (pv 1) pe_int (fun _ _ => rfl)) pa_nil))))) pss_nil)
      (pss_cons (ps_if (pt_cmpR op_eq (pv 2) (pe_cst T.KG) (nomark _)) (pss_one (ps_ret (pe_def D1 r2 (pa_cons (pv 0) (pa_cons (pe_ix ix_list (pv 1) pe_int (fun _ _ => rfl)) pa_nil))))) pss_nil)
      (pss_cons (ps_if (pt_cmpR op_eq (pv 2) (pe_cst T.SIZES) (nomark _)) (pss_one (ps_ret (pe_def D2 r2 (pa_cons (pv 0) (pa_cons (pe_ix ix_list (pv 1) pe_int (fun _ _ => rfl)) pa_nil))))) pss_nil)
      (pss_cons (ps_if (pt_cmpR op_eq (pv 2) (pe_cst T.MEAN) (nomark _)) (pss_one (ps_ret (pe_def D3 r2 (pa_cons (pv 0) (pa_cons (pe_ix ix_list (pv 1) pe_int (fun _ _ => rfl)) pa_nil))))) pss_nil)
      (pss_one (ps_ret (pe_def D4 r2 (pa_cons (pv 0) (pa_cons (pe_ix ix_list (pv 1) pe_int (fun _ _ => rfl)) (pa_cons (pe_ix ix_list (pv 1) pe_int (fun _ _ => rfl)) pa_nil)))))))))), ?_⟩
    cases hc with
    | done u =>
      refine ⟨_, rfl, c, _, _, _, rfl, rfl, SqL.of hl, at_of (j := 0) rfl rfl, ?_⟩
      refine ⟨_, rfl, rfl, _, rfl, iteY ?_⟩
      refine ⟨_, rfl, _, rfl, c, _, _, _, rfl, rfl, SqL.of hl, at_of (j := 1) rfl rfl, ?_⟩
      exact ⟨u, k, a, LW, LB, ws, bs, rfl, KT, q⟩
    | kg u =>
      refine ⟨_, rfl, c, _, _, _, rfl, rfl, SqL.of hl, at_of (j := 0) rfl rfl, ?_⟩
      refine ⟨_, rfl, rfl, _, rfl, iteN (by decide) ?_⟩
      refine ⟨_, rfl, rfl, _, rfl, iteY ?_⟩
      refine ⟨_, rfl, _, rfl, c, _, _, _, rfl, rfl, SqL.of hl, at_of (j := 1) rfl rfl, ?_⟩
      exact ⟨u, k, a, LW, LB, ws, bs, rfl, KT, q⟩
    | sizes u =>
      refine ⟨_, rfl, c, _, _, _, rfl, rfl, SqL.of hl, at_of (j := 0) rfl rfl, ?_⟩
      refine ⟨_, rfl, rfl, _, rfl, iteN (by decide) ?_⟩
      refine ⟨_, rfl, rfl, _, rfl, iteN (by decide) ?_⟩
      refine ⟨_, rfl, rfl, _, rfl, iteY ?_⟩
      refine ⟨_, rfl, _, rfl, c, _, _, _, rfl, rfl, SqL.of hl, at_of (j := 1) rfl rfl, ?_⟩
      exact ⟨u, k, a, LW, LB, ws, bs, rfl, KT, q⟩
    | mean u =>
      refine ⟨_, rfl, c, _, _, _, rfl, rfl, SqL.of hl, at_of (j := 0) rfl rfl, ?_⟩
      refine ⟨_, rfl, rfl, _, rfl, iteN (by decide) ?_⟩
      refine ⟨_, rfl, rfl, _, rfl, iteN (by decide) ?_⟩
      refine ⟨_, rfl, rfl, _, rfl, iteN (by decide) ?_⟩
      refine ⟨_, rfl, rfl, _, rfl, iteY ?_⟩
      refine ⟨_, rfl, _, rfl, c, _, _, _, rfl, rfl, SqL.of hl, at_of (j := 1) rfl rfl, ?_⟩
      exact ⟨u, k, a, LW, LB, ws, bs, rfl, KT, q⟩
    | parts u v =>
      refine ⟨_, rfl, c, _, _, _, rfl, rfl, SqL.of hl, at_of (j := 0) rfl rfl, ?_⟩
      refine ⟨_, rfl, rfl, _, rfl, iteN (by decide) ?_⟩
      refine ⟨_, rfl, rfl, _, rfl, iteN (by decide) ?_⟩
      refine ⟨_, rfl, rfl, _, rfl, iteN (by decide) ?_⟩
      refine ⟨_, rfl, rfl, _, rfl, iteN (by decide) ?_⟩
      refine ⟨_, rfl, _, rfl, c, _, _, _, rfl, rfl, SqL.of hl, at_of (j := 1) rfl rfl, _, rfl, c, _, _, _, rfl, rfl, SqL.of hl, at_of (j := 2) rfl rfl, ?_⟩
      exact ⟨u, v, k, a, LW, LB, ws, bs, rfl, KT, q⟩
    | _ => cases hch
def is_overview : Kv342.Call → Bool
  | .live | .of_ _ | .roots _ | .raw | .sums | .state => true
  | _ => false
theorem sc_answer_overview : FnScope ["kitchen", "call", "number"] ["kitchen", "call"] (defScope s_answer_overview) := ⟨rfl, rfl, rfl, by decide +kernel, rfl, by decide +kernel, by decide +kernel⟩
theorem ok_answer_overview (R : Raw K mg "answer_overview" s_answer_overview ["kitchen", "call"]) (T : Cst mg)
    (D0 : Def P w K mg base 2 "tell_live" ["kitchen"] (sp_tell_live CW CB CK))
    (D1 : Def P w K mg base 2 "tell_of" ["kitchen", "r"] (sp_tell_of CW CB CK))
    (D2 : Def P w K mg base 2 "tell_roots" ["kitchen", "b"] (sp_tell_roots CW CB CK))
    (D3 : Def P w K mg base 2 "tell_raw" ["kitchen"] (sp_tell_raw CW CB CK))
    (D4 : Def P w K mg base 3 "tell_sums" ["kitchen"] (sp_tell_sums CW CB CK))
    (D5 : Def P w K mg base 1 "tell_state" ["kitchen"] (sp_tell_state CW CB CK))
    : Def P w K mg base 4 "answer_overview" ["kitchen", "call"] (spk CW CB CK is_overview) := by
  refine R.ok sc_answer_overview (fun vs H Q E h => ?_) (fun f cdv A outer s H vs Q E hr h => ?_)
  · obtain ⟨k, c, a, LW, LB, ws, bs, sl, cl, rfl, _⟩ := h
    rfl
  · obtain ⟨k, c, a, LW, LB, ws, bs, sl, cl, rfl, hc, hch, hl, KT, q⟩ := h
    have r1 : Room 1 _ := hr.mono (by decide)
    have r2 : Room 2 _ := hr.mono (by decide)
    have r3 : Room 3 _ := hr.mono (by decide)
    refine ⟨_, pss_cons (ps_set (i := 2) sc_answer_overview.nd rfl (Or.inl rfl) (pe_ix ix_list (pv 1) pe_int (fun _ _ => rfl)))
      (pss_cons (ps_if (pt_cmpR op_eq (pv 2) (pe_cst T.LIVE) (nomark _)) (pss_one (ps_ret (pe_def D0 r2 (pa_cons (pv 0) pa_nil)))) pss_nil)
      (pss_cons (ps_if (pt_cmpR op_eq (pv 2) (pe_cst T.OF) (nomark _)) (pss_one (ps_ret (pe_def D1 r2 (pa_cons (pv 0) (pa_cons (pe_ix ix_list (pv 1) pe_int (fun _ _ => rfl)) pa_nil))))) pss_nil)
      (pss_cons (ps_if (pt_cmpR op_eq (pv 2) (pe_cst T.ROOTS) (nomark _)) (pss_one (ps_ret (pe_def D2 r2 (pa_cons (pv 0) (pa_cons (pe_ix ix_list (pv 1) pe_int (fun _ _ => rfl)) pa_nil))))) pss_nil)
      (pss_cons (ps_if (pt_cmpR op_eq (pv 2) (pe_cst T.RAW) (nomark _)) (pss_one (ps_ret (pe_def D3 r2 (pa_cons (pv 0) pa_nil)))) pss_nil)
      (pss_cons (ps_if (pt_cmpR op_eq (pv 2) (pe_cst T.SUMS) (nomark _)) (pss_one (ps_ret (pe_def D4 r3 (pa_cons (pv 0) pa_nil)))) pss_nil)
      (pss_one (ps_ret (pe_def D5 r1 (pa_cons (pv 0) pa_nil))))))))), ?_⟩
    cases hc with
    | live =>
      refine ⟨_, rfl, c, _, _, _, rfl, rfl, SqL.of hl, at_of (j := 0) rfl rfl, ?_⟩
      refine ⟨_, rfl, rfl, _, rfl, iteY ?_⟩
      refine ⟨_, rfl, ?_⟩
      exact ⟨k, a, LW, LB, ws, bs, rfl, KT, q⟩
    | of_ u =>
      refine ⟨_, rfl, c, _, _, _, rfl, rfl, SqL.of hl, at_of (j := 0) rfl rfl, ?_⟩
      refine ⟨_, rfl, rfl, _, rfl, iteN (by decide) ?_⟩
      refine ⟨_, rfl, rfl, _, rfl, iteY ?_⟩
      refine ⟨_, rfl, _, rfl, c, _, _, _, rfl, rfl, SqL.of hl, at_of (j := 1) rfl rfl, ?_⟩
      exact ⟨u, k, a, LW, LB, ws, bs, rfl, KT, q⟩
    | roots u =>
      refine ⟨_, rfl, c, _, _, _, rfl, rfl, SqL.of hl, at_of (j := 0) rfl rfl, ?_⟩
      refine ⟨_, rfl, rfl, _, rfl, iteN (by decide) ?_⟩
      refine ⟨_, rfl, rfl, _, rfl, iteN (by decide) ?_⟩
      refine ⟨_, rfl, rfl, _, rfl, iteY ?_⟩
      refine ⟨_, rfl, _, rfl, c, _, _, _, rfl, rfl, SqL.of hl, at_of (j := 1) rfl rfl, ?_⟩
      exact ⟨u, k, a, LW, LB, ws, bs, rfl, KT, q⟩
    | raw =>
      refine ⟨_, rfl, c, _, _, _, rfl, rfl, SqL.of hl, at_of (j := 0) rfl rfl, ?_⟩
      refine ⟨_, rfl, rfl, _, rfl, iteN (by decide) ?_⟩
      refine ⟨_, rfl, rfl, _, rfl, iteN (by decide) ?_⟩
      refine ⟨_, rfl, rfl, _, rfl, iteN (by decide) ?_⟩
      refine ⟨_, rfl, rfl, _, rfl, iteY ?_⟩
      refine ⟨_, rfl, ?_⟩
      exact ⟨k, a, LW, LB, ws, bs, rfl, KT, q⟩
    | sums =>
      refine ⟨_, rfl, c, _, _, _, rfl, rfl, SqL.of hl, at_of (j := 0) rfl rfl, ?_⟩
      refine ⟨_, rfl, rfl, _, rfl, iteN (by decide) ?_⟩
      refine ⟨_, rfl, rfl, _, rfl, iteN (by decide) ?_⟩
      refine ⟨_, rfl, rfl, _, rfl, iteN (by decide) ?_⟩
      refine ⟨_, rfl, rfl, _, rfl, iteN (by decide) ?_⟩
      refine ⟨_, rfl, rfl, _, rfl, iteY ?_⟩
      refine ⟨_, rfl, ?_⟩
      exact ⟨k, a, LW, LB, ws, bs, rfl, KT, q⟩
    | state =>
      refine ⟨_, rfl, c, _, _, _, rfl, rfl, SqL.of hl, at_of (j := 0) rfl rfl, ?_⟩
      refine ⟨_, rfl, rfl, _, rfl, iteN (by decide) ?_⟩
      refine ⟨_, rfl, rfl, _, rfl, iteN (by decide) ?_⟩
      refine ⟨_, rfl, rfl, _, rfl, iteN (by decide) ?_⟩
      refine ⟨_, rfl, rfl, _, rfl, iteN (by decide) ?_⟩
      refine ⟨_, rfl, rfl, _, rfl, iteN (by decide) ?_⟩
      refine ⟨_, rfl, ?_⟩
      exact ⟨k, a, LW, LB, ws, bs, rfl, KT, q⟩
    | _ => cases hch
/-- a call's own number -/
def cn : Kv342.Call → Nat
  | .begin_ _ => 0
  | .warm _ _ => 1
  | .batch _ _ => 2
  | .wash _ => 3
  | .sieve _ _ => 4
  | .mix _ _ => 5
  | .heat _ _ _ => 6
  | .enough _ _ => 7
  | .pack _ => 8
  | .alive _ => 9
  | .would _ _ _ => 10
  | .need _ _ => 11
  | .leaves _ _ => 12
  | .best _ => 13
  | .hotter _ _ => 14
  | .half _ => 15
  | .done _ => 16
  | .kg _ => 17
  | .sizes _ => 18
  | .mean _ => 19
  | .parts _ _ => 20
  | .live => 21
  | .of_ _ => 22
  | .roots _ => 23
  | .raw => 24
  | .sums => 25
  | .state => 26
theorem cn_is {sl : List Int} {cl : Kv342.Call} (h : IsCall sl cl) : ∃ r, sl = ((cn cl : Nat) : Int) :: r := by
  cases h <;> exact ⟨_, rfl⟩
theorem cn_lt (cl : Kv342.Call) : cn cl < 27 := by
  cases cl <;> (simp only [cn]; omega)
theorem ch_cn (cl : Kv342.Call) : isChange cl = decide (cn cl ≤ 8) := by cases cl <;> rfl
theorem lk_cn (cl : Kv342.Call) : is_look cl = decide (9 ≤ cn cl ∧ cn cl ≤ 15) := by cases cl <;> rfl
theorem ms_cn (cl : Kv342.Call) : is_measure cl = decide (16 ≤ cn cl ∧ cn cl ≤ 20) := by cases cl <;> rfl
theorem ov_cn (cl : Kv342.Call) : is_overview cl = decide (21 ≤ cn cl ∧ cn cl ≤ 26) := by cases cl <;> rfl
theorem cn_zero {cl : Kv342.Call} (h : cn cl = 0) : ∃ l, cl = .begin_ l := by
  cases cl <;> first | exact ⟨_, rfl⟩ | (simp only [cn] at h; omega)
theorem act_none {cl : Kv342.Call} (h : cn cl ≠ 0) : Kv342.act none cl = (none, Kv342.say (-11)) := by
  cases cl <;> first | rfl | exact absurd rfl h
theorem rd_begun {i j n dx : Nat} {b : Bool} {Q : Bool → Hp → Prop} (C : Cl K CW CB CK) (hk : H k = some (.ins CK dx (kf b a LW LB))) (h1 : σ[i]? = some (some (.ref k))) (h2 : σ[j]? = some (some (I n))) (h : Q (!b && !decide (n = 0)) H) :
    tAnd (tNot (tB (tFld K (tVar i) "begun"))) (tTest (tOp rNe (tVar j) (tC (.int 0)))) σ H Q := by
  refine ⟨_, h1, k, CK, dx, _, _, rfl, hk, C.k, C.begun, rfl, _, rfl, ?_⟩
  cases b with
  | true => exact iteF h
  | false =>
    refine iteT ⟨_, h2, rfl, _, rfl, ?_⟩
    have e : decide (I n = V.int 0) = decide (n = 0) := eqI_cast n 0
    rw [e]
    exact h
theorem sc_answer_call : FnScope ["kitchen", "call", "number"] ["kitchen", "call"] (defScope s_answer_call) := ⟨rfl, rfl, rfl, by decide +kernel, rfl, by decide +kernel, by decide +kernel⟩
theorem ok_answer_call (R : Raw K mg "answer_call" s_answer_call ["kitchen", "call"]) (T : Cst mg) (C : Cl K CW CB CK) (Dch : Def P w K mg base 6 "answer_change" ["kitchen", "call"] (sp_answer_change CW CB CK)) (Dlk : Def P w K mg base 5 "answer_look" ["kitchen", "call"] (spk CW CB CK is_look))
    (Dms : Def P w K mg base 4 "answer_measure" ["kitchen", "call"] (spk CW CB CK is_measure)) (Dov : Def P w K mg base 4 "answer_overview" ["kitchen", "call"] (spk CW CB CK is_overview)) : Def P w K mg base 7 "answer_call" ["kitchen", "call"] (sp_answer_call CW CB CK) := by
  refine R.ok sc_answer_call (fun vs H Q E h => ?_) (fun f cdv A outer s H vs Q E hr h => ?_)
  · obtain ⟨k, c, S, F, sl, cl, rfl, _⟩ := h
    rfl
  · obtain ⟨k, c, S, F, sl, cl, rfl, hc, hl, hcF, ks, q⟩ := h
    have r5 : Room 5 _ := hr.mono (by decide)
    have r4 : Room 4 _ := hr.mono (by decide)
    refine ⟨_, pss_cons (ps_set (i := 2) sc_answer_call.nd rfl (Or.inl rfl) (pe_ix ix_list (pv 1) pe_int (fun _ _ => rfl)))
      (pss_cons (ps_if (PW.pt (pw_and (pt_not (pt_val (pe_fld (pv 0) rfl))) (pw_and1 (pt_cmpR op_ne (pv 2) (pe_cst T.BEGIN) (nomark _))))) (pss_one (ps_ret (pe_lst (pa_cons (pe_cst T.NOT_BEGUN) pa_nil)))) pss_nil)
      (pss_cons (ps_if (pt_cmpR op_le (pv 2) (pe_cst T.PACK) (nomark _)) (pss_one (ps_ret (pe_def Dch hr (pa_cons (pv 0) (pa_cons (pv 1) pa_nil))))) pss_nil)
      (pss_cons (ps_if (pt_cmpR op_le (pv 2) (pe_cst T.HALF) (nomark _)) (pss_one (ps_ret (pe_def Dlk r5 (pa_cons (pv 0) (pa_cons (pv 1) pa_nil))))) pss_nil)
      (pss_cons (ps_if (pt_cmpR op_le (pv 2) (pe_cst T.PARTS) (nomark _)) (pss_one (ps_ret (pe_def Dms r4 (pa_cons (pv 0) (pa_cons (pv 1) pa_nil))))) pss_nil)
      (pss_one (ps_ret (pe_def Dov r4 (pa_cons (pv 0) (pa_cons (pv 1) pa_nil))))))))), ?_⟩
    obtain ⟨r, rfl⟩ := cn_is hc
    refine ⟨_, rfl, c, _, _, _, rfl, rfl, SqL.of hl, at_of (j := 0) rfl rfl, ?_⟩
    obtain ⟨dx, b, a0, LW0, LB0, hk, eb⟩ := ks.obj
    refine rd_begun C hk rfl rfl (ite_b (fun h => ?_) fun h => ?_)
    · rw [Bool.and_eq_true] at h
      have hn : cn cl ≠ 0 := fun e => by
        have := h.2
        rw [e] at this
        cases this
      cases S with
      | some a =>
        rw [eb] at h
        cases h.1
      | none =>
        refine ⟨one_ok, fun p hp => ?_⟩
        rw [act_none hn] at q
        exact q.new ks (Same.refl H) hp
    have hS : S = none → ∃ l, cl = .begin_ l := fun e => by
      rw [eb, e] at h
      refine cn_zero ?_
      have h : (!decide (cn cl = 0)) = false := h
      cases hd : decide (cn cl = 0) with
      | true => exact of_decide_eq_true hd
      | false => rw [hd] at h; cases h
    refine ⟨_, rfl, _, _, rfl, rfl, _, rfl, ite_d (fun h8 => ?_) fun h8 => ?_⟩
    · exact ⟨_, rfl, _, rfl, k, c, S, F, _, cl, rfl, hc, by rw [ch_cn]; exact decide_eq_true (by omega), hS, hl, ks, q⟩
    have lt := cn_lt cl
    cases S with
    | none =>
      obtain ⟨l, rfl⟩ := hS rfl
      exfalso
      have : cn (.begin_ l) = 0 := rfl
      omega
    | some a =>
      obtain ⟨LW, LB, ws, bs, KT, rfl⟩ := ks
      refine ⟨_, rfl, _, _, rfl, rfl, _, rfl, ite_d (fun h15 => ?_) fun h15 => ?_⟩
      · exact ⟨_, rfl, _, rfl, k, c, a, LW, LB, ws, bs, _, cl, rfl, hc, by rw [lk_cn]; exact decide_eq_true (by omega), hl, KT, q.post⟩
      refine ⟨_, rfl, _, _, rfl, rfl, _, rfl, ite_d (fun h20 => ?_) fun h20 => ?_⟩
      · exact ⟨_, rfl, _, rfl, k, c, a, LW, LB, ws, bs, _, cl, rfl, hc, by rw [ms_cn]; exact decide_eq_true (by omega), hl, KT, q.post⟩
      · exact ⟨_, rfl, _, rfl, k, c, a, LW, LB, ws, bs, _, cl, rfl, hc, by rw [ov_cn]; exact decide_eq_true (by omega), hl, KT, q.post⟩
end
end Bl
end
section
set_option Elab.async false
set_option linter.all false
set_option maxRecDepth 100000
set_option maxHeartbeats 2000000
namespace Bl
open PySem PySem.Spec PyProof.Rows L2
theorem raw_mk {K : PySem.W.Frag} {h : Heap} {mg : Str → Option Value} {x : Str} {st : Stmt} {ps : List Str} {f : Addr} {oc : Value} {od an : Option Addr} {osl : Array (Option Value)} {kV doc pm cdv ct : Value} (X : K.In h) (G : h.Ns mainGlobals mg)
    (a : PySem.W.nsIn K mainGlobals x = some (some (.ref f))) (l : K.lookup f = some ⟨oc, od, .func (PySem.W.fnOf x x (defArgs st) (defBody st) (defScope st) .none kV doc pm an cdv ct), osl⟩) (c : PySem.W.codeIn K cdv x = true) (k : PySem.W.keepIn K (.ref f) = true)
    (hb : ∀ (kV doc pm : Value) (an : Option Addr) (cdv ct : Value) (us : List Value), us.length = ps.length → bindArgs (PySem.W.fnOf x x (defArgs st) (defBody st) (defScope st) .none kV doc pm an cdv ct) ⟨us, []⟩ = pure (ps.zip us)) : Raw K mg x st ps :=
  ⟨f, _, PySem.W.mg_of X G a, fun_mk l c k, (fun_mk (st := st) l c k).binds hb⟩
theorem rawI_mk {K : PySem.W.Frag} {h : Heap} {mg : Str → Option Value} {x qual : Str} {st : Stmt} {ps : List Str} {C f : Addr} {oc : Value} {od an : Option Addr} {osl : Array (Option Value)} {kV doc pm cdv ct : Value} (X : K.In h) (G : h.Ns mainGlobals mg)
    (aC : PySem.W.nsIn K mainGlobals x = some (some (.ref C))) (mk : PySem.W.makesIn K C = true) (a : PySem.W.findIn K (.ref C) "__init__" = some (some (.ref f))) (i : PySem.W.isFn K (.ref f) = true) (kc : PySem.W.keepIn K (.ref C) = true)
    (l : K.lookup f = some ⟨oc, od, .func (PySem.W.fnOf "__init__" qual (defArgs st) (defBody st) (defScope st) .none kV doc pm an cdv ct), osl⟩) (c : PySem.W.codeIn K cdv qual = true) (k : PySem.W.keepIn K (.ref f) = true)
    (hb : ∀ (kV doc pm : Value) (an : Option Addr) (cdv ct : Value) (us : List Value), us.length = ps.length → bindArgs (PySem.W.fnOf "__init__" qual (defArgs st) (defBody st) (defScope st) .none kV doc pm an cdv ct) ⟨us, []⟩ = pure (ps.zip us)) : RawI K mg x qual C st ps :=
  ⟨f, _, PySem.W.mg_of X G aC, ⟨mk, a, i, kc⟩, fun_mk l c k, (fun_mk (st := st) l c k).binds hb⟩
theorem cst_mk {K : PySem.W.Frag} {h : Heap} {mg : Str → Option Value} {x : Str} {z : Int} {t : Tok} (X : K.In h) (G : h.Ns mainGlobals mg) (a : PySem.W.nsIn K mainGlobals x = some (some (.int z t))) : ∃ t, mg x = some (.int z t) := ⟨t, PySem.W.mg_of X G a⟩
theorem rawM_mk {K : PySem.W.Frag} {m qual : Str} {st : Stmt} {ps : List Str} {C f : Addr} {oc : Value} {od an : Option Addr} {osl : Array (Option Value)} {kV doc pm cdv ct : Value}
    (a : PySem.W.findIn K (.ref C) m = some (some (.ref f))) (i : PySem.W.isFn K (.ref f) = true)
    (l : K.lookup f = some ⟨oc, od, .func (PySem.W.fnOf m qual (defArgs st) (defBody st) (defScope st) .none kV doc pm an cdv ct), osl⟩) (c : PySem.W.codeIn K cdv qual = true) (k : PySem.W.keepIn K (.ref f) = true)
    (hb : ∀ (kV doc pm : Value) (an : Option Addr) (cdv ct : Value) (us : List Value), us.length = ps.length → bindArgs (PySem.W.fnOf m qual (defArgs st) (defBody st) (defScope st) .none kV doc pm an cdv ct) ⟨us, []⟩ = pure (ps.zip us)) : RawM K C m qual st ps :=
  ⟨f, _, ⟨a, i, k⟩, fun_mk l c k, (fun_mk (st := st) l c k).binds hb⟩
theorem vals_abs : ∀ {us : List Value} {ns : List Nat}, us.map absV = ns.map (fun n => some (I n)) → Vals (ns.map I) us
  | [], [], _ => .nil
  | [], _ :: _, h => by cases h
  | _ :: _, [], h => by cases h
  | u :: us, n :: ns, h => by
    rw [List.map_cons, List.map_cons] at h
    injection h with h1 h2
    refine .cons ?_ (vals_abs h2)
    cases u with
    | int i t =>
      have e : V.int i = I n := Option.some.inj h1
      injection e with e
      subst e
      exact ⟨t, rfl⟩
    | _ => cases h1
theorem tab_mk {K : PySem.W.Frag} {h : Heap} {mg : Str → Option Value} {aW : Addr} {od : Option Addr} {its : Array Value} {n : Nat} {osl : Array (Option Value)} (X : K.In h) (G : h.Ns mainGlobals mg)
    (a : PySem.W.nsIn K mainGlobals "WHOLE_NUMBERS" = some (some (.ref aW))) (l : K.lookup aW = some ⟨.type "tuple", od, .seq its n, osl⟩) (hz : its.toList.map absV = WN.map (fun n => some (I n))) : Tab K mg :=
  ⟨aW, PySem.W.mg_of X G a, fun H => .inr ⟨_, its, n, l, rfl, rfl, by
    have := congrArg List.length hz
    rw [List.length_map, Array.length_toList] at this
    rw [this]
    decide, vals_abs hz⟩⟩
theorem finT {P : Program} {w : World} {K : PySem.W.Frag} {h : Heap} {mg : Str → Option Value} {fa CW CB CK f3 : Addr} {od3 an3 : Option Addr} {sl3 : Array (Option Value)} {oc3 kV3 dc3 pm3 cd3 ct3 : Value}
    (X : K.In h) (G : h.Ns mainGlobals mg) (hfa : mg "answers" = some (.ref fa)) (T : Cst mg) (TT : Tab K mg) (C : Cl K CW CB CK)
    (i_Warmth : RawI K mg "Warmth" "Warmth.__init__" CW s_Warmth ["self", "kills", "fades"]) (i_Batch : RawI K mg "Batch" "Batch.__init__" CB s_Batch ["self", "waste", "sizes", "alive", "green", "roots"]) (i_Kitchen : RawI K mg "Kitchen" "Kitchen.__init__" CK s_Kitchen ["self"])
    (m_make_empty : RawM K CK "make_empty" "Kitchen.make_empty" s_Kitchen_make_empty ["self", "limit"])
    (r_after_second : Raw K mg "after_second" s_after_second ["amount", "lost"])
    (r_after_seconds : Raw K mg "after_seconds" s_after_seconds ["amount", "lost", "seconds"])
    (r_least_seconds : Raw K mg "least_seconds" s_least_seconds ["alive", "kills", "limit"])
    (r_has_batch : Raw K mg "has_batch" s_has_batch ["kitchen", "b"])
    (r_has_warmth : Raw K mg "has_warmth" s_has_warmth ["kitchen", "w"])
    (r_is_mesh : Raw K mg "is_mesh" s_is_mesh ["m"])
    (r_kilograms : Raw K mg "kilograms" s_kilograms ["batch"])
    (r_is_little_enough : Raw K mg "is_little_enough" s_is_little_enough ["kitchen", "alive"])
    (r_is_done : Raw K mg "is_done" s_is_done ["kitchen", "batch"])
    (r_seconds_needed : Raw K mg "seconds_needed" s_seconds_needed ["kitchen", "b", "w"])
    (r_alive_after : Raw K mg "alive_after" s_alive_after ["kitchen", "b", "w", "seconds"])
    (r_green_after : Raw K mg "green_after" s_green_after ["kitchen", "b", "w", "seconds"])
    (r_begin_anew : Raw K mg "begin_anew" s_begin_anew ["kitchen", "limit"])
    (r_add_warmth : Raw K mg "add_warmth" s_add_warmth ["kitchen", "kills", "fades"])
    (r_are_sizes : Raw K mg "are_sizes" s_are_sizes ["sizes"])
    (r_add_batch : Raw K mg "add_batch" s_add_batch ["kitchen", "waste", "sizes"])
    (r_wash_batch : Raw K mg "wash_batch" s_wash_batch ["kitchen", "b"])
    (r_is_usable : Raw K mg "is_usable" s_is_usable ["batch"])
    (r_part_of : Raw K mg "part_of" s_part_of ["batch", "sizes"])
    (r_sieve_batch : Raw K mg "sieve_batch" s_sieve_batch ["kitchen", "b", "m"])
    (r_mixture_of : Raw K mg "mixture_of" s_mixture_of ["one", "other"])
    (r_mix_batches : Raw K mg "mix_batches" s_mix_batches ["kitchen", "b", "c"])
    (r_heat : Raw K mg "heat" s_heat ["kitchen", "b", "w", "seconds"])
    (r_heat_batch : Raw K mg "heat_batch" s_heat_batch ["kitchen", "b", "w", "s"])
    (r_heat_enough : Raw K mg "heat_enough" s_heat_enough ["kitchen", "b", "w"])
    (r_pack_batch : Raw K mg "pack_batch" s_pack_batch ["kitchen", "b"])
    (r_tell_alive : Raw K mg "tell_alive" s_tell_alive ["kitchen", "b"])
    (r_tell_would : Raw K mg "tell_would" s_tell_would ["kitchen", "b", "w", "s"])
    (r_tell_need : Raw K mg "tell_need" s_tell_need ["kitchen", "b", "w"])
    (r_tell_leaves : Raw K mg "tell_leaves" s_tell_leaves ["kitchen", "b", "w"])
    (r_tell_best : Raw K mg "tell_best" s_tell_best ["kitchen", "b"])
    (r_tell_hotter : Raw K mg "tell_hotter" s_tell_hotter ["kitchen", "v", "w"])
    (r_tell_half : Raw K mg "tell_half" s_tell_half ["kitchen", "w"])
    (r_tell_done : Raw K mg "tell_done" s_tell_done ["kitchen", "b"])
    (r_tell_kilograms : Raw K mg "tell_kilograms" s_tell_kilograms ["kitchen", "b"])
    (r_tell_sizes : Raw K mg "tell_sizes" s_tell_sizes ["kitchen", "b"])
    (r_tell_mean : Raw K mg "tell_mean" s_tell_mean ["kitchen", "b"])
    (r_tell_parts : Raw K mg "tell_parts" s_tell_parts ["kitchen", "b", "m"])
    (r_counted : Raw K mg "counted" s_counted ["numbers"])
    (r_numbers_there : Raw K mg "numbers_there" s_numbers_there ["kitchen"])
    (r_tell_live : Raw K mg "tell_live" s_tell_live ["kitchen"])
    (r_tell_of : Raw K mg "tell_of" s_tell_of ["kitchen", "r"])
    (r_tell_roots : Raw K mg "tell_roots" s_tell_roots ["kitchen", "b"])
    (r_tell_raw : Raw K mg "tell_raw" s_tell_raw ["kitchen"])
    (r_kilograms_there : Raw K mg "kilograms_there" s_kilograms_there ["kitchen"])
    (r_tell_sums : Raw K mg "tell_sums" s_tell_sums ["kitchen"])
    (r_tell_state : Raw K mg "tell_state" s_tell_state ["kitchen"])
    (r_end_of_call : Raw K mg "end_of_call" s_end_of_call ["calls", "start"])
    (r_answer_change : Raw K mg "answer_change" s_answer_change ["kitchen", "call"])
    (r_answer_look : Raw K mg "answer_look" s_answer_look ["kitchen", "call"])
    (r_answer_measure : Raw K mg "answer_measure" s_answer_measure ["kitchen", "call"])
    (r_answer_overview : Raw K mg "answer_overview" s_answer_overview ["kitchen", "call"])
    (r_answer_call : Raw K mg "answer_call" s_answer_call ["kitchen", "call"])
    (a3 : PySem.W.nsIn K mainGlobals "answers" = some (some (.ref f3))) (l3 : K.lookup f3 = some ⟨oc3, od3, .func (PySem.W.fnOf "answers" "answers" (defArgs s_answers) (defBody s_answers) (defScope s_answers) .none kV3 dc3 pm3 an3 cd3 ct3), sl3⟩) (c3 : PySem.W.codeIn K cd3 "answers" = true) (k3 : PySem.W.keepIn K (.ref f3) = true) :
    ∃ fd : FuncData, (∀ (s : Shared) (us : List Value), us.length = (["calls"] : List Str).length → BindsTo s fd ⟨us, []⟩ ((["calls"] : List Str).zip us)) ∧ ∀ base : Heap, K.In base → base.Ns mainGlobals mg → FnOk P w K mg base CX0 8 fa fd ["calls"] (spAns K) := by
  have e := hfa.symm.trans (PySem.W.mg_of X G a3)
  cases e
  refine ⟨PySem.W.fnOf "answers" "answers" (defArgs s_answers) (defBody s_answers) (defScope s_answers) .none kV3 dc3 pm3 an3 cd3 ct3, fun s us hu => match us, hu with | [_], _ => .of_eq rfl, fun base _ _ => ?_⟩
  have F3 := fun_mk (st := s_answers) l3 c3 k3
  have D_after_second := ok_after_second (P := P) (w := w) (base := base) r_after_second T
  have D_after_seconds := ok_after_seconds (P := P) (w := w) (base := base) r_after_seconds T D_after_second
  have D_least_seconds := ok_least_seconds (P := P) (w := w) (base := base) r_least_seconds T D_after_second
  have D_has_batch := ok_has_batch (P := P) (w := w) (base := base) r_has_batch T C
  have D_has_warmth := ok_has_warmth (P := P) (w := w) (base := base) r_has_warmth T C
  have D_is_mesh := ok_is_mesh (P := P) (w := w) (base := base) r_is_mesh T
  have D_kilograms := ok_kilograms (P := P) (w := w) (base := base) r_kilograms T C
  have D_is_little_enough := ok_is_little_enough (P := P) (w := w) (base := base) r_is_little_enough C
  have D_is_done := ok_is_done (P := P) (w := w) (base := base) r_is_done C D_is_little_enough
  have D_seconds_needed := ok_seconds_needed (P := P) (w := w) (base := base) r_seconds_needed C D_least_seconds
  have D_alive_after := ok_alive_after (P := P) (w := w) (base := base) r_alive_after C D_after_seconds
  have D_green_after := ok_green_after (P := P) (w := w) (base := base) r_green_after C D_after_seconds
  have D_make_empty := ok_make_empty (P := P) (w := w) (mg := mg) (base := base) m_make_empty C
  have D_begin_anew := ok_begin_anew (P := P) (w := w) (base := base) r_begin_anew T C D_make_empty
  have D_Warmth := ok_Warmth (P := P) (w := w) (base := base) i_Warmth C
  have D_Batch := ok_Batch (P := P) (w := w) (base := base) i_Batch C
  have D_Kitchen := ok_Kitchen (P := P) (w := w) (base := base) i_Kitchen C D_make_empty
  have D_add_warmth := ok_add_warmth (P := P) (w := w) (base := base) r_add_warmth T C D_Warmth
  have D_are_sizes := ok_are_sizes (P := P) (w := w) (base := base) r_are_sizes T
  have D_add_batch := ok_add_batch (P := P) (w := w) (base := base) r_add_batch T C D_are_sizes D_Batch
  have D_wash_batch := ok_wash_batch (P := P) (w := w) (base := base) r_wash_batch T C D_has_batch
  have D_is_usable := ok_is_usable (P := P) (w := w) (base := base) r_is_usable C
  have D_part_of := ok_part_of (P := P) (w := w) (base := base) r_part_of T C D_Batch
  have D_sieve_batch := ok_sieve_batch (P := P) (w := w) (base := base) r_sieve_batch T C D_has_batch D_is_usable D_kilograms D_is_mesh D_part_of
  have D_mixture_of := ok_mixture_of (P := P) (w := w) (base := base) r_mixture_of T C D_Batch
  have D_mix_batches := ok_mix_batches (P := P) (w := w) (base := base) r_mix_batches T C D_has_batch D_is_usable D_kilograms D_mixture_of
  have D_heat := ok_heat (P := P) (w := w) (base := base) r_heat C D_alive_after D_green_after
  have D_heat_batch := ok_heat_batch (P := P) (w := w) (base := base) r_heat_batch T C D_has_batch D_has_warmth D_is_usable D_heat
  have D_heat_enough := ok_heat_enough (P := P) (w := w) (base := base) r_heat_enough T C D_has_batch D_has_warmth D_is_usable D_seconds_needed D_heat
  have D_pack_batch := ok_pack_batch (P := P) (w := w) (base := base) r_pack_batch T C D_has_batch D_is_done D_kilograms
  have D_tell_alive := ok_tell_alive (P := P) (w := w) (base := base) r_tell_alive T C D_has_batch
  have D_tell_would := ok_tell_would (P := P) (w := w) (base := base) r_tell_would T C D_has_batch D_has_warmth D_alive_after D_green_after D_is_little_enough
  have D_tell_need := ok_tell_need (P := P) (w := w) (base := base) r_tell_need T C D_has_batch D_has_warmth D_seconds_needed
  have D_tell_leaves := ok_tell_leaves (P := P) (w := w) (base := base) r_tell_leaves T C D_has_batch D_has_warmth D_seconds_needed D_green_after
  have D_tell_best := ok_tell_best (P := P) (w := w) (base := base) r_tell_best T C D_has_batch D_seconds_needed D_green_after
  have D_tell_hotter := ok_tell_hotter (P := P) (w := w) (base := base) r_tell_hotter T C D_has_warmth
  have D_tell_half := ok_tell_half (P := P) (w := w) (base := base) r_tell_half T C D_has_warmth D_least_seconds
  have D_tell_done := ok_tell_done (P := P) (w := w) (base := base) r_tell_done T C D_has_batch D_is_done
  have D_tell_kilograms := ok_tell_kilograms (P := P) (w := w) (base := base) r_tell_kilograms T C D_has_batch D_kilograms
  have D_tell_sizes := ok_tell_sizes (P := P) (w := w) (base := base) r_tell_sizes T C D_has_batch
  have D_tell_mean := ok_tell_mean (P := P) (w := w) (base := base) r_tell_mean T C D_has_batch D_kilograms
  have D_tell_parts := ok_tell_parts (P := P) (w := w) (base := base) r_tell_parts T C D_has_batch D_kilograms D_is_mesh
  have D_counted := ok_counted (P := P) (w := w) (base := base) r_counted T
  have D_numbers_there := ok_numbers_there (P := P) (w := w) (base := base) r_numbers_there T C
  have D_tell_live := ok_tell_live (P := P) (w := w) (base := base) r_tell_live T C D_counted D_numbers_there
  have D_tell_of := ok_tell_of (P := P) (w := w) (base := base) r_tell_of T C D_counted D_numbers_there
  have D_tell_roots := ok_tell_roots (P := P) (w := w) (base := base) r_tell_roots T C D_has_batch D_counted
  have D_tell_raw := ok_tell_raw (P := P) (w := w) (base := base) r_tell_raw T C D_is_little_enough D_counted D_numbers_there
  have D_kilograms_there := ok_kilograms_there (P := P) (w := w) (base := base) r_kilograms_there T C D_kilograms D_numbers_there
  have D_tell_sums := ok_tell_sums (P := P) (w := w) (base := base) r_tell_sums T C D_kilograms_there
  have D_tell_state := ok_tell_state (P := P) (w := w) (base := base) r_tell_state T C
  have D_end_of_call := ok_end_of_call (P := P) (w := w) (base := base) r_end_of_call T TT
  have D_answer_change := ok_answer_change (P := P) (w := w) (base := base) (n := 5) (Nat.le_refl _) r_answer_change T D_begin_anew D_add_warmth D_add_batch D_wash_batch D_sieve_batch D_mix_batches D_heat_batch D_heat_enough D_pack_batch
  have D_answer_look := ok_answer_look (P := P) (w := w) (base := base) r_answer_look T D_tell_alive D_tell_would D_tell_need D_tell_leaves D_tell_best D_tell_hotter D_tell_half
  have D_answer_measure := ok_answer_measure (P := P) (w := w) (base := base) r_answer_measure T D_tell_done D_tell_kilograms D_tell_sizes D_tell_mean D_tell_parts
  have D_answer_overview := ok_answer_overview (P := P) (w := w) (base := base) r_answer_overview T D_tell_live D_tell_of D_tell_roots D_tell_raw D_tell_sums D_tell_state
  have D_answer_call := ok_answer_call (P := P) (w := w) (base := base) r_answer_call T C D_answer_change D_answer_look D_answer_measure D_answer_overview
  exact run_answers (n := 4) F3 T D_Kitchen D_end_of_call D_answer_call
end Bl
end
section
theorem PySem.W.Fast.tw13223066926133134357 : True := trivial
theorem PySem.W.Fast.tw249368651010749406 : True := trivial
theorem PySem.W.Fast.tw8944209827165360189 : True := trivial
theorem PySem.W.Fast.tw5439219562685602397 : True := trivial
theorem PySem.W.Fast.tw12102624609267616019 : True := trivial
theorem PySem.W.Fast.tw2736546089179912636 : True := trivial
theorem PySem.W.Fast.tw6451912023441251118 : True := trivial
theorem PySem.W.Fast.tw12791210745650368644 : True := trivial
theorem PySem.W.Fast.tw10209026748481244477 : True := trivial
theorem PySem.W.Fast.tw14688562552775400349 : True := trivial
theorem PySem.W.Fast.tw2224543556982018134 : True := trivial
theorem PySem.W.Fast.tw9166268277675331785 : True := trivial
theorem PySem.W.Fast.tw2073631495920938469 : True := trivial
theorem PySem.W.Fast.tw9747013192079807875 : True := trivial
theorem PySem.W.Fast.tw12867688392287949351 : True := trivial
theorem PySem.W.Fast.tw16049549181789790905 : True := trivial
theorem PySem.W.Fast.tw2511428848561042526 : True := trivial
theorem PySem.W.Fast.tw9212402165638482693 : True := trivial
theorem PySem.W.Fast.tw6162784696060042549 : True := trivial
theorem PySem.W.Fast.tw3277242590037705386 : True := trivial
theorem PySem.W.Fast.tw9371856752304851492 : True := trivial
theorem PySem.W.Fast.tw4950734277331928196 : True := trivial
theorem PySem.W.Fast.tw11230799877128419697 : True := trivial
theorem PySem.W.Fast.tw15810610916265594268 : True := trivial
theorem PySem.W.Fast.tw12407829934083634672 : True := trivial
theorem PySem.W.Fast.tw16773917865669824914 : True := trivial
theorem PySem.W.Fast.tw2780606916235074569 : True := trivial
theorem PySem.W.Fast.tw2632407101143665534 : True := trivial
theorem PySem.W.Fast.tw12074940147018710762 : True := trivial
theorem PySem.W.Fast.tw17728293733862917133 : True := trivial
theorem PySem.W.Fast.tw8049374764273287669 : True := trivial
theorem PySem.W.Fast.tw17832180399008353881 : True := trivial
theorem PySem.W.Fast.tw1439720443322624223 : True := trivial
theorem PySem.W.Fast.tw8794565334649840592 : True := trivial
theorem PySem.W.Fast.tw10137594231149226931 : True := trivial
theorem PySem.W.Fast.tw1265688097373135564 : True := trivial
theorem PySem.W.Fast.tw447817823839454093 : True := trivial
theorem PySem.W.Fast.tw13154394368886459070 : True := trivial
theorem PySem.W.Fast.tw4906578111015567272 : True := trivial
theorem PySem.W.Fast.tw16842466478788739346 : True := trivial
theorem PySem.W.Fast.tw8201393620296490180 : True := trivial
theorem PySem.W.Fast.tw11089463970234766993 : True := trivial
theorem PySem.W.Fast.tw10909899542934107896 : True := trivial
theorem PySem.W.Fast.tw6918342510095517607 : True := trivial
theorem PySem.W.Fast.tw13985691962224060004 : True := trivial
theorem PySem.W.Fast.tw13696269042740209449 : True := trivial
theorem PySem.W.Fast.tw1907998286132862796 : True := trivial
theorem PySem.W.Fast.tw12412232561778093945 : True := trivial
theorem PySem.W.Fast.tw13640833999679105911 : True := trivial
theorem PySem.W.Fast.tw14861342638874087214 : True := trivial
theorem PySem.W.Fast.tw7142128810222837606 : True := trivial
theorem PySem.W.Fast.tw13120944488839853479 : True := trivial
theorem PySem.W.Fast.tw6303847758137815313 : True := trivial
theorem PySem.W.Fast.tw12660781218252586200 : True := trivial
theorem PySem.W.Fast.tw7390822583135744634 : True := trivial
theorem PySem.W.Fast.tw14372591325074200042 : True := trivial
theorem PySem.W.Fast.tw6556997266221223680 : True := trivial
theorem PySem.W.Fast.tw2326050910260691809 : True := trivial
theorem PySem.W.Fast.tw13243091078830483523 : True := trivial
theorem PySem.W.Fast.tw12377712220005775758 : True := trivial
theorem PySem.W.Fast.tw1112135795603188041 : True := trivial
theorem PySem.W.Fast.tw807017344724790311 : True := trivial
theorem PySem.W.Fast.tw12272124046464313789 : True := trivial
theorem PySem.W.Fast.tw16588600965715646386 : True := trivial
theorem PySem.W.Fast.tw4557548571485842508 : True := trivial
theorem PySem.W.Fast.tw2247108112508830608 : True := trivial
theorem PySem.W.Fast.tw975170344436883029 : True := trivial
theorem PySem.W.Fast.tw11076519182145035479 : True := trivial
theorem PySem.W.Fast.tw3124635879559539890 : True := trivial
theorem PySem.W.Fast.tw3608310532601310397 : True := trivial
theorem PySem.W.Fast.tw6679727250182666040 : True := trivial
theorem PySem.W.Fast.tw16173256546757152649 : True := trivial
theorem PySem.W.Fast.tw18293919874665162599 : True := trivial
theorem PySem.W.Fast.tw13896625914950303056 : True := trivial
theorem PySem.W.Fast.tw16369718166171719312 : True := trivial
theorem PySem.W.Fast.tw15080634116463392258 : True := trivial
theorem PySem.W.Fast.tw14257060843655864408 : True := trivial
theorem PySem.W.Fast.tw2915737747098457145 : True := trivial
theorem PySem.W.Fast.tw16970273263809312997 : True := trivial
theorem PySem.W.Fast.tw3423526201261653929 : True := trivial
theorem PySem.W.Fast.tw9634593817563173208 : True := trivial
theorem PySem.W.Fast.tw1530972528046853212 : True := trivial
theorem PySem.W.Fast.tw12199204703757250669 : True := trivial
theorem PySem.W.Fast.tw10134409396156202042 : True := trivial
theorem PySem.W.Fast.tw6793596280079361520 : True := trivial
theorem PySem.W.Fast.tw5502880841535579967 : True := trivial
theorem PySem.W.Fast.tw13229251152524349342 : True := trivial
theorem PySem.W.Fast.tw7284149806230370919 : True := trivial
theorem PySem.W.Fast.tw6763814529485788668 : True := trivial
theorem PySem.W.Fast.tw13990219391811588768 : True := trivial
theorem PySem.W.Fast.tw8266185244639574145 : True := trivial
theorem PySem.W.Fast.tw8383613635905902784 : True := trivial
theorem PySem.W.Fast.tw1788602067490182082 : True := trivial
theorem PySem.W.Fast.tw2427085632461686863 : True := trivial
theorem PySem.W.Fast.tw18004857234027256952 : True := trivial
theorem PySem.W.Fast.tw4924787051326711240 : True := trivial
theorem PySem.W.Fast.tw10859853854373786524 : True := trivial
theorem PySem.W.Fast.tw16545113220330756954 : True := trivial
theorem PySem.W.Fast.tw8262147320582472804 : True := trivial
theorem PySem.W.Fast.tw3481510722911646041 : True := trivial
theorem PySem.W.Fast.tw413563850359229584 : True := trivial
theorem PySem.W.Fast.tw4047509001658344193 : True := trivial
theorem PySem.W.Fast.tw28919770617668297 : True := trivial
theorem PySem.W.Fast.tw16090888026906692457 : True := trivial
theorem PySem.W.Fast.tw11203680302072104948 : True := trivial
theorem PySem.W.Fast.tw16603989125255413543 : True := trivial
theorem PySem.W.Fast.tw136424288072176633 : True := trivial
theorem PySem.W.Fast.tw8224324958537979950 : True := trivial
theorem PySem.W.Fast.tw18058125286057201762 : True := trivial
theorem PySem.W.Fast.tw9013839105131158467 : True := trivial
theorem PySem.W.Fast.tw15642444992303667836 : True := trivial
theorem PySem.W.Fast.tw13997401890581456890 : True := trivial
theorem PySem.W.Fast.tw15045976455795099705 : True := trivial
theorem PySem.W.Fast.tw13934275230351699740 : True := trivial
theorem PySem.W.Fast.tw1865988406956012865 : True := trivial
theorem PySem.W.Fast.tw3733646968478820638 : True := trivial
theorem PySem.W.Fast.tw3040647301911009561 : True := trivial
theorem PySem.W.Fast.tw11026006235573535547 : True := trivial
theorem PySem.W.Fast.tw2217314887722929956 : True := trivial
theorem PySem.W.Fast.tw11611494275835914651 : True := trivial
theorem PySem.W.Fast.tw812265430509849971 : True := trivial
theorem PySem.W.Fast.tw7140033463166755740 : True := trivial
theorem PySem.W.Fast.tw17931937021322959092 : True := trivial
theorem PySem.W.Fast.tw14381339553584274048 : True := trivial
theorem PySem.W.Fast.tw9606078232446282388 : True := trivial
theorem PySem.W.Fast.tw7351642685778078785 : True := trivial
theorem PySem.W.Fast.tw10203114142163037873 : True := trivial
theorem PySem.W.Fast.tw52561941542577300 : True := trivial
theorem PySem.W.Fast.tw16212089747413166990 : True := trivial
theorem PySem.W.Fast.tw4262652379684577314 : True := trivial
theorem PySem.W.Fast.tw13364831597603286793 : True := trivial
theorem PySem.W.Fast.tw17459416006232347749 : True := trivial
theorem PySem.W.Fast.tw7227796339318482130 : True := trivial
theorem PySem.W.Fast.tw4383494588304990921 : True := trivial
theorem PySem.W.Fast.tw10158679522724039056 : True := trivial
theorem PySem.W.Fast.tw10194079884432908503 : True := trivial
theorem PySem.W.Fast.tw12091659613881414162 : True := trivial
theorem PySem.W.Fast.tw13751508466439599141 : True := trivial
theorem PySem.W.Fast.tw1846701108022681414 : True := trivial
theorem PySem.W.Fast.tw4637667896511743601 : True := trivial
theorem PySem.W.Fast.tw847744917740526101 : True := trivial
theorem PySem.W.Fast.tw13570233637703468819 : True := trivial
theorem PySem.W.Fast.tw16716160321806647966 : True := trivial
theorem PySem.W.Fast.tw14268767036957227191 : True := trivial
theorem PySem.W.Fast.tw10813477047573774842 : True := trivial
theorem PySem.W.Fast.tw7056639320609922367 : True := trivial
theorem PySem.W.Fast.tw6158704948478996039 : True := trivial
theorem PySem.W.Fast.tw3740679356740875005 : True := trivial
theorem PySem.W.Fast.tw5906674574488419740 : True := trivial
theorem PySem.W.Fast.tw16717069373328292703 : True := trivial
theorem PySem.W.Fast.tw9010168058710083501 : True := trivial
theorem PySem.W.Fast.tw9473536073164352862 : True := trivial
theorem PySem.W.Fast.tw11630263945496702270 : True := trivial
theorem PySem.W.Fast.tw12775482147138649949 : True := trivial
theorem PySem.W.Fast.tw18166321739224078221 : True := trivial
theorem PySem.W.Fast.tw5177160822027793696 : True := trivial
theorem PySem.W.Fast.tw18030682220338631606 : True := trivial
theorem PySem.W.Fast.tw17385234950559722573 : True := trivial
theorem PySem.W.Fast.tw5023065322493066071 : True := trivial
theorem PySem.W.Fast.tw12341063996437226466 : True := trivial
theorem PySem.W.Fast.tw4659931474341591650 : True := trivial
theorem PySem.W.Fast.tw18300177240726055375 : True := trivial
theorem PySem.W.Fast.tw3381330283684869740 : True := trivial
theorem PySem.W.Fast.tw15289463024684659035 : True := trivial
theorem PySem.W.Fast.tw901607784252267479 : True := trivial
theorem PySem.W.Fast.tw6550220307248622911 : True := trivial
theorem PySem.W.Fast.tw3395932636535571204 : True := trivial
theorem PySem.W.Fast.tw903238307718581869 : True := trivial
theorem PySem.W.Fast.tw227169427297083497 : True := trivial
theorem PySem.W.Fast.tw609700894214994797 : True := trivial
theorem PySem.W.Fast.tw12425667818250585707 : True := trivial
theorem PySem.W.Fast.tw5627817654649816194 : True := trivial
theorem PySem.W.Fast.tw6097863730924194490 : True := trivial
theorem PySem.W.Fast.tw4493502005648153282 : True := trivial
theorem PySem.W.Fast.tw1013143987381940975 : True := trivial
theorem PySem.W.Fast.tw4012129215084981416 : True := trivial
theorem PySem.W.Fast.tw15706132649663971737 : True := trivial
theorem PySem.W.Fast.tw11143947991928733589 : True := trivial
theorem PySem.W.Fast.tw13083657570534599299 : True := trivial
theorem PySem.W.Fast.tw7269160821703244055 : True := trivial
theorem PySem.W.Fast.tw15885282861901932158 : True := trivial
theorem PySem.W.Fast.tw14482708346469773494 : True := trivial
theorem PySem.W.Fast.tw2611957930166634639 : True := trivial
theorem PySem.W.Fast.tw6753972961045639095 : True := trivial
theorem PySem.W.Fast.tw18252009012299929043 : True := trivial
theorem PySem.W.Fast.tw15969278853994009030 : True := trivial
theorem PySem.W.Fast.tw13074489401200035353 : True := trivial
theorem PySem.W.Fast.tw5898272936374903974 : True := trivial
theorem PySem.W.Fast.tw2436463843656435160 : True := trivial
theorem PySem.W.Fast.tw17302221020238995533 : True := trivial
theorem PySem.W.Fast.tw18295596060339769851 : True := trivial
theorem PySem.W.Fast.tw18377414032409961939 : True := trivial
theorem PySem.W.Fast.tw14385472046656695996 : True := trivial
theorem PySem.W.Fast.tw7871354809994033052 : True := trivial
theorem PySem.W.Fast.tw5451175253529897602 : True := trivial
theorem PySem.W.Fast.tw2048182604681490427 : True := trivial
theorem PySem.W.Fast.tw5954002774311602138 : True := trivial
theorem PySem.W.Fast.tw16290645042768571547 : True := trivial
theorem PySem.W.Fast.tw5908578962971081634 : True := trivial
theorem PySem.W.Fast.tw9609832242982034401 : True := trivial
theorem PySem.W.Fast.tw15203326772192635457 : True := trivial
theorem PySem.W.Fast.tw2124671345691458974 : True := trivial
theorem PySem.W.Fast.tw10337176430743999648 : True := trivial
theorem PySem.W.Fast.tw3208740297300174419 : True := trivial
theorem PySem.W.Fast.tw16523129811938806627 : True := trivial
theorem PySem.W.Fast.tw17723347338688908480 : True := trivial
theorem PySem.W.Fast.tw4607488457200536624 : True := trivial
theorem PySem.W.Fast.tw12673465993255125854 : True := trivial
theorem PySem.W.Fast.tw2641363107077716833 : True := trivial
theorem PySem.W.Fast.tw16014374217754732550 : True := trivial
theorem PySem.W.Fast.tw12236604204418860874 : True := trivial
theorem PySem.W.Fast.tw827851315207040938 : True := trivial
theorem PySem.W.Fast.tw12954840963818795618 : True := trivial
theorem PySem.W.Fast.tw14797616785559125188 : True := trivial
theorem PySem.W.Fast.tw3587579470846378753 : True := trivial
theorem PySem.W.Fast.tw16064536259603336519 : True := trivial
theorem PySem.W.Fast.tw7490228303237374381 : True := trivial
theorem PySem.W.Fast.tw3638017353689415086 : True := trivial
theorem PySem.W.Fast.tw11109780464826378466 : True := trivial
theorem PySem.W.Fast.tw17704732178801822337 : True := trivial
theorem PySem.W.Fast.tw16925136567200786058 : True := trivial
theorem PySem.W.Fast.tw7387383788909455638 : True := trivial
theorem PySem.W.Fast.tw1230279490347964902 : True := trivial
theorem PySem.W.Fast.tw10000949178479670074 : True := trivial
theorem PySem.W.Fast.tw17365800078970584947 : True := trivial
theorem PySem.W.Fast.tw3252624376659129894 : True := trivial
theorem PySem.W.Fast.tw17723101708237673536 : True := trivial
theorem PySem.W.Fast.tw11229061232839463064 : True := trivial
theorem PySem.W.Fast.tw6518910756110360812 : True := trivial
theorem PySem.W.Fast.tw2814107415599082288 : True := trivial
theorem PySem.W.Fast.tw7035875789806137072 : True := trivial
theorem PySem.W.Fast.tw15886875917470867907 : True := trivial
theorem PySem.W.Fast.tw10193882553776709633 : True := trivial
theorem PySem.W.Fast.tw14192002837741320811 : True := trivial
theorem PySem.W.Fast.tw1192749086201769159 : True := trivial
theorem PySem.W.Fast.tw4080213940754412112 : True := trivial
theorem PySem.W.Fast.tw7098881343815546317 : True := trivial
theorem PySem.W.Fast.tw7411876719109515495 : True := trivial
theorem PySem.W.Fast.tw5801148112304117608 : True := trivial
theorem PySem.W.Fast.tw40267091775523783 : True := trivial
theorem PySem.W.Fast.tw9587721498912686563 : True := trivial
theorem PySem.W.Fast.tw7147213440009747725 : True := trivial
theorem PySem.W.Fast.tw13198871435617495596 : True := trivial
theorem PySem.W.Fast.tw2650161288024093554 : True := trivial
theorem PySem.W.Fast.tw4702021714140851413 : True := trivial
theorem PySem.W.Fast.tw13404079033851406015 : True := trivial
theorem PySem.W.Fast.tw14212370870427758544 : True := trivial
theorem PySem.W.Fast.tw4958378995067225153 : True := trivial
theorem PySem.W.Fast.tw9687491758570700383 : True := trivial
theorem PySem.W.Fast.tw6776690803245893982 : True := trivial
theorem PySem.W.Fast.tw14413291944359283510 : True := trivial
theorem PySem.W.Fast.tw11131773176589455176 : True := trivial
theorem PySem.W.Fast.tw2778704583473422598 : True := trivial
theorem PySem.W.Fast.tw18113788846417856539 : True := trivial
theorem PySem.W.Fast.tw4710245709050542413 : True := trivial
theorem PySem.W.Fast.tw11755291374851380506 : True := trivial
theorem PySem.W.Fast.tw3162662016735386642 : True := trivial
theorem PySem.W.Fast.tw8928393128819822676 : True := trivial
theorem PySem.W.Fast.tw10926426937702636192 : True := trivial
theorem PySem.W.Fast.tw1786840391951799801 : True := trivial
theorem PySem.W.Fast.tw2656709018544770145 : True := trivial
theorem PySem.W.Fast.tw9578873696929222779 : True := trivial
theorem PySem.W.Fast.tw3288623788368563327 : True := trivial
theorem PySem.W.Fast.tw9545817403182150847 : True := trivial
theorem PySem.W.Fast.tw14936748737555591233 : True := trivial
theorem PySem.W.Fast.tw16143925026056006165 : True := trivial
theorem PySem.W.Fast.tw16727882135766633356 : True := trivial
theorem PySem.W.Fast.tw208222755000830786 : True := trivial
theorem PySem.W.Fast.tw18321714806381713440 : True := trivial
theorem PySem.W.Fast.tw13468493851018023320 : True := trivial
theorem PySem.W.Fast.tw15352311465924204536 : True := trivial
theorem PySem.W.Fast.tw9425681961249530151 : True := trivial
theorem PySem.W.Fast.tw10208780155847580007 : True := trivial
theorem PySem.W.Fast.tw9267220097167154347 : True := trivial
theorem PySem.W.Fast.tw11716097946846765064 : True := trivial
theorem PySem.W.Fast.tw6735710712118645662 : True := trivial
theorem PySem.W.Fast.tw5678700176706224393 : True := trivial
theorem PySem.W.Fast.tw16279845280236702250 : True := trivial
theorem PySem.W.Fast.tw16413346977369393229 : True := trivial
theorem PySem.W.Fast.tw12218853269490654691 : True := trivial
theorem PySem.W.Fast.tw14751346380006545112 : True := trivial
theorem PySem.W.Fast.tw51638931034976674 : True := trivial
theorem PySem.W.Fast.tw7664092644703272525 : True := trivial
theorem PySem.W.Fast.tw1660493130787208259 : True := trivial
theorem PySem.W.Fast.tw7280096994917263628 : True := trivial
theorem PySem.W.Fast.tw17571982934231300684 : True := trivial
theorem PySem.W.Fast.tw12933187613750620177 : True := trivial
theorem PySem.W.Fast.tw7436090365032437280 : True := trivial
theorem PySem.W.Fast.tw9804472861053828595 : True := trivial
theorem PySem.W.Fast.tw11575422046810832018 : True := trivial
theorem PySem.W.Fast.tw7930068241465379024 : True := trivial
theorem PySem.W.Fast.tw17080552137903223400 : True := trivial
theorem PySem.W.Fast.tw17391596785587947981 : True := trivial
theorem PySem.W.Fast.tw13666336458730982099 : True := trivial
theorem PySem.W.Fast.tw15621326013940244648 : True := trivial
theorem PySem.W.Fast.tw6732228913490121383 : True := trivial
theorem PySem.W.Fast.tw8469966513999636762 : True := trivial
theorem PySem.W.Fast.tw18288776430603748443 : True := trivial
theorem PySem.W.Fast.tw15822381541774528995 : True := trivial
theorem PySem.W.Fast.tw3504502441077009081 : True := trivial
theorem PySem.W.Fast.tw8083506887599752208 : True := trivial
theorem PySem.W.Fast.tw4669071572325529578 : True := trivial
theorem PySem.W.Fast.tw16805207813835218984 : True := trivial
theorem PySem.W.Fast.tw5273476743235968061 : True := trivial
theorem PySem.W.Fast.tw11802042939907538559 : True := trivial
theorem PySem.W.Fast.tw15620698706069204184 : True := trivial
theorem PySem.W.Fast.tw13979038932344139396 : True := trivial
theorem PySem.W.Fast.tw16463395237184932663 : True := trivial
theorem PySem.W.Fast.tw16198550169769173457 : True := trivial
theorem PySem.W.Fast.tw905143546996230146 : True := trivial
theorem PySem.W.Fast.tw6726416853653641417 : True := trivial
theorem PySem.W.Fast.tw10145280818353116384 : True := trivial
theorem PySem.W.Fast.tw7008629193408750496 : True := trivial
theorem PySem.W.Fast.tw15250852840917218969 : True := trivial
theorem PySem.W.Fast.tw8721570010790831096 : True := trivial
theorem PySem.W.Fast.tw10077657860270675622 : True := trivial
theorem PySem.W.Fast.tw5777182585290194349 : True := trivial
theorem PySem.W.Fast.tw8509391582992015814 : True := trivial
theorem PySem.W.Fast.tw18171530330912982016 : True := trivial
theorem PySem.W.Fast.tw14840129143670803253 : True := trivial
theorem PySem.W.Fast.tw10836241340773060299 : True := trivial
theorem PySem.W.Fast.tw13251550735147124708 : True := trivial
theorem PySem.W.Fast.tw18203136646960262836 : True := trivial
theorem PySem.W.Fast.tw552795812490565041 : True := trivial
theorem PySem.W.Fast.tw6626464719788190749 : True := trivial
theorem PySem.W.Fast.tw6446129159751774517 : True := trivial
theorem PySem.W.Fast.tw6822044388947555383 : True := trivial
theorem PySem.W.Fast.tw13732747095428791463 : True := trivial
theorem PySem.W.Fast.tw14110598392164880372 : True := trivial
theorem PySem.W.Fast.tw3957439020393038213 : True := trivial
theorem PySem.W.Fast.tw15769938261073235974 : True := trivial
theorem PySem.W.Fast.tw9665131656714090957 : True := trivial
theorem PySem.W.Fast.tw2031216426875493807 : True := trivial
theorem PySem.W.Fast.tw2095957962467958503 : True := trivial
theorem PySem.W.Fast.tw15123332281792170597 : True := trivial
theorem PySem.W.Fast.tw17995524656546339852 : True := trivial
theorem PySem.W.Fast.tw9617392887871188414 : True := trivial
theorem PySem.W.Fast.tw17899063721584171374 : True := trivial
theorem PySem.W.Fast.tw5641426666583459379 : True := trivial
theorem PySem.W.Fast.tw1987112712538044905 : True := trivial
theorem PySem.W.Fast.tw14511197794826931575 : True := trivial
theorem PySem.W.Fast.tw11338169924985998508 : True := trivial
theorem PySem.W.Fast.tw154791692446443433 : True := trivial
theorem PySem.W.Fast.tw9579396580885442081 : True := trivial
theorem PySem.W.Fast.tw877179025915199782 : True := trivial
theorem PySem.W.Fast.tw14520309624377126690 : True := trivial
theorem PySem.W.Fast.tw15107058114837075163 : True := trivial
theorem PySem.W.Fast.tw2442283849034580841 : True := trivial
theorem PySem.W.Fast.tw12793010785655110431 : True := trivial
theorem PySem.W.Fast.tw12227915391457684713 : True := trivial
theorem PySem.W.Fast.tw11533967360575975596 : True := trivial
theorem PySem.W.Fast.tw17941523684893239536 : True := trivial
theorem PySem.W.Fast.tw475963469761328356 : True := trivial
theorem PySem.W.Fast.tw18287815110531104225 : True := trivial
theorem PySem.W.Fast.tw11871200383089807977 : True := trivial
theorem PySem.W.Fast.tw16669867456079413201 : True := trivial
theorem PySem.W.Fast.tw9268813692853163806 : True := trivial
theorem PySem.W.Fast.tw16075585474238857994 : True := trivial
theorem PySem.W.Fast.tw6660618015059352097 : True := trivial
theorem PySem.W.Fast.tw12492277560060580676 : True := trivial
theorem PySem.W.Fast.tw14578300814443357219 : True := trivial
theorem PySem.W.Fast.tw8707820447315540372 : True := trivial
theorem PySem.W.Fast.tw15122142015301470638 : True := trivial
theorem PySem.W.Fast.tw7970290967887132046 : True := trivial
theorem PySem.W.Fast.tw11360337891111539342 : True := trivial
theorem PySem.W.Fast.tw2919143224551121383 : True := trivial
theorem PySem.W.Fast.tw7320903107231073377 : True := trivial
theorem PySem.W.Fast.tw528859586734340005 : True := trivial
theorem PySem.W.Fast.tw8917858630366037985 : True := trivial
theorem PySem.W.Fast.tw15962411290346540613 : True := trivial
theorem PySem.W.Fast.tw16209111032388409651 : True := trivial
theorem PySem.W.Fast.tw8617452604249152812 : True := trivial
theorem PySem.W.Fast.tw2776761762483379274 : True := trivial
theorem PySem.W.Fast.tw5936213215978813502 : True := trivial
theorem PySem.W.Fast.tw6514410330235548808 : True := trivial
theorem PySem.W.Fast.tw16207958991252696872 : True := trivial
theorem PySem.W.Fast.tw11209632032598488110 : True := trivial
theorem PySem.W.Fast.tw16425854275343893495 : True := trivial
theorem PySem.W.Fast.tw11235880249559066321 : True := trivial
theorem PySem.W.Fast.tw5964534651882059954 : True := trivial
theorem PySem.W.Fast.tw18314734337296040134 : True := trivial
theorem PySem.W.Fast.tw8255808697443024642 : True := trivial
theorem PySem.W.Fast.tw7897191152292568653 : True := trivial
theorem PySem.W.Fast.tw3151163180267405676 : True := trivial
theorem PySem.W.Fast.tw9832590795115128750 : True := trivial
theorem PySem.W.Fast.tw10897151577873954672 : True := trivial
theorem PySem.W.Fast.tw10191832511426428805 : True := trivial
theorem PySem.W.Fast.tw11911021620615511807 : True := trivial
theorem PySem.W.Fast.tw2176220306057460308 : True := trivial
theorem PySem.W.Fast.tw12457643378958299089 : True := trivial
theorem PySem.W.Fast.tw9981352440924055628 : True := trivial
theorem PySem.W.Fast.tw10059571026420607433 : True := trivial
theorem PySem.W.Fast.tw11480981345005039602 : True := trivial
theorem PySem.W.Fast.tw12974248809493948533 : True := trivial
theorem PySem.W.Fast.tw11999787473521696883 : True := trivial
theorem PySem.W.Fast.tw16735016096056288029 : True := trivial
theorem PySem.W.Fast.tw1704419796343571243 : True := trivial
theorem PySem.W.Fast.tw1715343608091380920 : True := trivial
theorem PySem.W.Fast.tw6057155036740944098 : True := trivial
end
section
set_option Elab.async false
set_option linter.all false
open PySem PySem.W PyProof.Rows
set_option maxRecDepth 100000 in
set_option maxHeartbeats 0 in
theorem PySem.Challenge.cw_blanched_s01_answers_holds : PySem.Challenge.rw_blanched_s01_answers.Holds := by
  w_on; k_headS; (case hw => exact ⟨[.list [.int 0, .int 5]], by decide +kernel, by decide +kernel⟩)
  k_fillS
  refine L2.walk_specK (r := PySem.Challenge.rw_blanched_s01_answers) (k := 8) (CX := L2.CX0) (ps := ["calls"]) (sp := Bl.spAns) (by decide +kernel) rfl rfl ⟨rfl, by decide, by decide⟩ (fun w h Y => PySem.W.kIn_of Y) ?F ?S (fun _ _ _ _ z => z)
  case F =>
    intro w mg fa h Y KX G hmg
    refine' Bl.finT KX G hmg ?T ?TT ?C ?i_Warmth ?i_Batch ?i_Kitchen ?m_make_empty ?r_after_second ?r_after_seconds ?r_least_seconds ?r_has_batch ?r_has_warmth ?r_is_mesh ?r_kilograms ?r_is_little_enough ?r_is_done ?r_seconds_needed ?r_alive_after ?r_green_after ?r_begin_anew ?r_add_warmth ?r_are_sizes ?r_add_batch ?r_wash_batch ?r_is_usable ?r_part_of ?r_sieve_batch ?r_mixture_of ?r_mix_batches ?r_heat ?r_heat_batch ?r_heat_enough ?r_pack_batch ?r_tell_alive ?r_tell_would ?r_tell_need ?r_tell_leaves ?r_tell_best ?r_tell_hotter ?r_tell_half ?r_tell_done ?r_tell_kilograms ?r_tell_sizes ?r_tell_mean ?r_tell_parts ?r_counted ?r_numbers_there ?r_tell_live ?r_tell_of ?r_tell_roots ?r_tell_raw ?r_kilograms_there ?r_tell_sums ?r_tell_state ?r_end_of_call ?r_answer_change ?r_answer_look ?r_answer_measure ?r_answer_overview ?r_answer_call ?a3 ?l3 ?c3 ?k3
    (case i_Warmth => (refine' Bl.rawI_mk KX G ?aC ?mk ?a ?i ?kc ?l ?c ?k fun _ _ _ _ _ _ us hl => match us, hl with | [_, _, _], _ => rfl); (case aC => k_is); (case mk => k_is); (case a => k_is); (case i => k_is); (case kc => k_is); (case l => k_is); (case c => k_is); (case k => k_is))
    (case i_Batch => (refine' Bl.rawI_mk KX G ?aC ?mk ?a ?i ?kc ?l ?c ?k fun _ _ _ _ _ _ us hl => match us, hl with | [_, _, _, _, _, _], _ => rfl); (case aC => k_is); (case mk => k_is); (case a => k_is); (case i => k_is); (case kc => k_is); (case l => k_is); (case c => k_is); (case k => k_is))
    (case i_Kitchen => (refine' Bl.rawI_mk KX G ?aC ?mk ?a ?i ?kc ?l ?c ?k fun _ _ _ _ _ _ us hl => match us, hl with | [_], _ => rfl); (case aC => k_is); (case mk => k_is); (case a => k_is); (case i => k_is); (case kc => k_is); (case l => k_is); (case c => k_is); (case k => k_is))
    (case m_make_empty => (refine' Bl.rawM_mk ?a ?i ?l ?c ?k fun _ _ _ _ _ _ us hl => match us, hl with | [_, _], _ => rfl); (case a => k_is); (case i => k_is); (case l => k_is); (case c => k_is); (case k => k_is))
    (case TT => (refine' Bl.tab_mk KX G ?a ?l ?hz); (case a => k_is); (case l => k_is); (case hz => rfl))
    (case C => (refine' Bl.Cl.mk (L2.Cls.mk ?pw ?hw ?ow ?sw) (L2.Cls.mk ?pb ?hb ?ob ?sb) (L2.Cls.mk ?pk ?hk ?ok ?sk) ?nw_kills ?nw_fades ?nb_waste ?nb_sizes ?nb_alive ?nb_green ?nb_roots ?nb_gone ?nk_begun ?nk_limit ?nk_warmths ?nk_batches ?nk_firsts ?nk_came ?nk_washed ?nk_packed); (case pw => k_is); (case hw => k_is); (case ow => k_is); (case sw => k_is); (case pb => k_is); (case hb => k_is); (case ob => k_is); (case sb => k_is); (case pk => k_is); (case hk => k_is); (case ok => k_is); (case sk => k_is); (case nw_kills => unfold L2.NoAttr; k_is); (case nw_fades => unfold L2.NoAttr; k_is); (case nb_waste => unfold L2.NoAttr; k_is); (case nb_sizes => unfold L2.NoAttr; k_is); (case nb_alive => unfold L2.NoAttr; k_is); (case nb_green => unfold L2.NoAttr; k_is); (case nb_roots => unfold L2.NoAttr; k_is); (case nb_gone => unfold L2.NoAttr; k_is); (case nk_begun => unfold L2.NoAttr; k_is); (case nk_limit => unfold L2.NoAttr; k_is); (case nk_warmths => unfold L2.NoAttr; k_is); (case nk_batches => unfold L2.NoAttr; k_is); (case nk_firsts => unfold L2.NoAttr; k_is); (case nk_came => unfold L2.NoAttr; k_is); (case nk_washed => unfold L2.NoAttr; k_is); (case nk_packed => unfold L2.NoAttr; k_is))
    (case r_after_second => (refine' Bl.raw_mk KX G ?a ?l ?c ?k fun _ _ _ _ _ _ us hl => match us, hl with | [_, _], _ => rfl); (case a => k_is); (case l => k_is); (case c => k_is); (case k => k_is))
    (case r_after_seconds => (refine' Bl.raw_mk KX G ?a ?l ?c ?k fun _ _ _ _ _ _ us hl => match us, hl with | [_, _, _], _ => rfl); (case a => k_is); (case l => k_is); (case c => k_is); (case k => k_is))
    (case r_least_seconds => (refine' Bl.raw_mk KX G ?a ?l ?c ?k fun _ _ _ _ _ _ us hl => match us, hl with | [_, _, _], _ => rfl); (case a => k_is); (case l => k_is); (case c => k_is); (case k => k_is))
    (case r_has_batch => (refine' Bl.raw_mk KX G ?a ?l ?c ?k fun _ _ _ _ _ _ us hl => match us, hl with | [_, _], _ => rfl); (case a => k_is); (case l => k_is); (case c => k_is); (case k => k_is))
    (case r_has_warmth => (refine' Bl.raw_mk KX G ?a ?l ?c ?k fun _ _ _ _ _ _ us hl => match us, hl with | [_, _], _ => rfl); (case a => k_is); (case l => k_is); (case c => k_is); (case k => k_is))
    (case r_is_mesh => (refine' Bl.raw_mk KX G ?a ?l ?c ?k fun _ _ _ _ _ _ us hl => match us, hl with | [_], _ => rfl); (case a => k_is); (case l => k_is); (case c => k_is); (case k => k_is))
    (case r_kilograms => (refine' Bl.raw_mk KX G ?a ?l ?c ?k fun _ _ _ _ _ _ us hl => match us, hl with | [_], _ => rfl); (case a => k_is); (case l => k_is); (case c => k_is); (case k => k_is))
    (case r_is_little_enough => (refine' Bl.raw_mk KX G ?a ?l ?c ?k fun _ _ _ _ _ _ us hl => match us, hl with | [_, _], _ => rfl); (case a => k_is); (case l => k_is); (case c => k_is); (case k => k_is))
    (case r_is_done => (refine' Bl.raw_mk KX G ?a ?l ?c ?k fun _ _ _ _ _ _ us hl => match us, hl with | [_, _], _ => rfl); (case a => k_is); (case l => k_is); (case c => k_is); (case k => k_is))
    (case r_seconds_needed => (refine' Bl.raw_mk KX G ?a ?l ?c ?k fun _ _ _ _ _ _ us hl => match us, hl with | [_, _, _], _ => rfl); (case a => k_is); (case l => k_is); (case c => k_is); (case k => k_is))
    (case r_alive_after => (refine' Bl.raw_mk KX G ?a ?l ?c ?k fun _ _ _ _ _ _ us hl => match us, hl with | [_, _, _, _], _ => rfl); (case a => k_is); (case l => k_is); (case c => k_is); (case k => k_is))
    (case r_green_after => (refine' Bl.raw_mk KX G ?a ?l ?c ?k fun _ _ _ _ _ _ us hl => match us, hl with | [_, _, _, _], _ => rfl); (case a => k_is); (case l => k_is); (case c => k_is); (case k => k_is))
    (case r_begin_anew => (refine' Bl.raw_mk KX G ?a ?l ?c ?k fun _ _ _ _ _ _ us hl => match us, hl with | [_, _], _ => rfl); (case a => k_is); (case l => k_is); (case c => k_is); (case k => k_is))
    (case r_add_warmth => (refine' Bl.raw_mk KX G ?a ?l ?c ?k fun _ _ _ _ _ _ us hl => match us, hl with | [_, _, _], _ => rfl); (case a => k_is); (case l => k_is); (case c => k_is); (case k => k_is))
    (case r_are_sizes => (refine' Bl.raw_mk KX G ?a ?l ?c ?k fun _ _ _ _ _ _ us hl => match us, hl with | [_], _ => rfl); (case a => k_is); (case l => k_is); (case c => k_is); (case k => k_is))
    (case r_add_batch => (refine' Bl.raw_mk KX G ?a ?l ?c ?k fun _ _ _ _ _ _ us hl => match us, hl with | [_, _, _], _ => rfl); (case a => k_is); (case l => k_is); (case c => k_is); (case k => k_is))
    (case r_wash_batch => (refine' Bl.raw_mk KX G ?a ?l ?c ?k fun _ _ _ _ _ _ us hl => match us, hl with | [_, _], _ => rfl); (case a => k_is); (case l => k_is); (case c => k_is); (case k => k_is))
    (case r_is_usable => (refine' Bl.raw_mk KX G ?a ?l ?c ?k fun _ _ _ _ _ _ us hl => match us, hl with | [_], _ => rfl); (case a => k_is); (case l => k_is); (case c => k_is); (case k => k_is))
    (case r_part_of => (refine' Bl.raw_mk KX G ?a ?l ?c ?k fun _ _ _ _ _ _ us hl => match us, hl with | [_, _], _ => rfl); (case a => k_is); (case l => k_is); (case c => k_is); (case k => k_is))
    (case r_sieve_batch => (refine' Bl.raw_mk KX G ?a ?l ?c ?k fun _ _ _ _ _ _ us hl => match us, hl with | [_, _, _], _ => rfl); (case a => k_is); (case l => k_is); (case c => k_is); (case k => k_is))
    (case r_mixture_of => (refine' Bl.raw_mk KX G ?a ?l ?c ?k fun _ _ _ _ _ _ us hl => match us, hl with | [_, _], _ => rfl); (case a => k_is); (case l => k_is); (case c => k_is); (case k => k_is))
    (case r_mix_batches => (refine' Bl.raw_mk KX G ?a ?l ?c ?k fun _ _ _ _ _ _ us hl => match us, hl with | [_, _, _], _ => rfl); (case a => k_is); (case l => k_is); (case c => k_is); (case k => k_is))
    (case r_heat => (refine' Bl.raw_mk KX G ?a ?l ?c ?k fun _ _ _ _ _ _ us hl => match us, hl with | [_, _, _, _], _ => rfl); (case a => k_is); (case l => k_is); (case c => k_is); (case k => k_is))
    (case r_heat_batch => (refine' Bl.raw_mk KX G ?a ?l ?c ?k fun _ _ _ _ _ _ us hl => match us, hl with | [_, _, _, _], _ => rfl); (case a => k_is); (case l => k_is); (case c => k_is); (case k => k_is))
    (case r_heat_enough => (refine' Bl.raw_mk KX G ?a ?l ?c ?k fun _ _ _ _ _ _ us hl => match us, hl with | [_, _, _], _ => rfl); (case a => k_is); (case l => k_is); (case c => k_is); (case k => k_is))
    (case r_pack_batch => (refine' Bl.raw_mk KX G ?a ?l ?c ?k fun _ _ _ _ _ _ us hl => match us, hl with | [_, _], _ => rfl); (case a => k_is); (case l => k_is); (case c => k_is); (case k => k_is))
    (case r_tell_alive => (refine' Bl.raw_mk KX G ?a ?l ?c ?k fun _ _ _ _ _ _ us hl => match us, hl with | [_, _], _ => rfl); (case a => k_is); (case l => k_is); (case c => k_is); (case k => k_is))
    (case r_tell_would => (refine' Bl.raw_mk KX G ?a ?l ?c ?k fun _ _ _ _ _ _ us hl => match us, hl with | [_, _, _, _], _ => rfl); (case a => k_is); (case l => k_is); (case c => k_is); (case k => k_is))
    (case r_tell_need => (refine' Bl.raw_mk KX G ?a ?l ?c ?k fun _ _ _ _ _ _ us hl => match us, hl with | [_, _, _], _ => rfl); (case a => k_is); (case l => k_is); (case c => k_is); (case k => k_is))
    (case r_tell_leaves => (refine' Bl.raw_mk KX G ?a ?l ?c ?k fun _ _ _ _ _ _ us hl => match us, hl with | [_, _, _], _ => rfl); (case a => k_is); (case l => k_is); (case c => k_is); (case k => k_is))
    (case r_tell_best => (refine' Bl.raw_mk KX G ?a ?l ?c ?k fun _ _ _ _ _ _ us hl => match us, hl with | [_, _], _ => rfl); (case a => k_is); (case l => k_is); (case c => k_is); (case k => k_is))
    (case r_tell_hotter => (refine' Bl.raw_mk KX G ?a ?l ?c ?k fun _ _ _ _ _ _ us hl => match us, hl with | [_, _, _], _ => rfl); (case a => k_is); (case l => k_is); (case c => k_is); (case k => k_is))
    (case r_tell_half => (refine' Bl.raw_mk KX G ?a ?l ?c ?k fun _ _ _ _ _ _ us hl => match us, hl with | [_, _], _ => rfl); (case a => k_is); (case l => k_is); (case c => k_is); (case k => k_is))
    (case r_tell_done => (refine' Bl.raw_mk KX G ?a ?l ?c ?k fun _ _ _ _ _ _ us hl => match us, hl with | [_, _], _ => rfl); (case a => k_is); (case l => k_is); (case c => k_is); (case k => k_is))
    (case r_tell_kilograms => (refine' Bl.raw_mk KX G ?a ?l ?c ?k fun _ _ _ _ _ _ us hl => match us, hl with | [_, _], _ => rfl); (case a => k_is); (case l => k_is); (case c => k_is); (case k => k_is))
    (case r_tell_sizes => (refine' Bl.raw_mk KX G ?a ?l ?c ?k fun _ _ _ _ _ _ us hl => match us, hl with | [_, _], _ => rfl); (case a => k_is); (case l => k_is); (case c => k_is); (case k => k_is))
    (case r_tell_mean => (refine' Bl.raw_mk KX G ?a ?l ?c ?k fun _ _ _ _ _ _ us hl => match us, hl with | [_, _], _ => rfl); (case a => k_is); (case l => k_is); (case c => k_is); (case k => k_is))
    (case r_tell_parts => (refine' Bl.raw_mk KX G ?a ?l ?c ?k fun _ _ _ _ _ _ us hl => match us, hl with | [_, _, _], _ => rfl); (case a => k_is); (case l => k_is); (case c => k_is); (case k => k_is))
    (case r_counted => (refine' Bl.raw_mk KX G ?a ?l ?c ?k fun _ _ _ _ _ _ us hl => match us, hl with | [_], _ => rfl); (case a => k_is); (case l => k_is); (case c => k_is); (case k => k_is))
    (case r_numbers_there => (refine' Bl.raw_mk KX G ?a ?l ?c ?k fun _ _ _ _ _ _ us hl => match us, hl with | [_], _ => rfl); (case a => k_is); (case l => k_is); (case c => k_is); (case k => k_is))
    (case r_tell_live => (refine' Bl.raw_mk KX G ?a ?l ?c ?k fun _ _ _ _ _ _ us hl => match us, hl with | [_], _ => rfl); (case a => k_is); (case l => k_is); (case c => k_is); (case k => k_is))
    (case r_tell_of => (refine' Bl.raw_mk KX G ?a ?l ?c ?k fun _ _ _ _ _ _ us hl => match us, hl with | [_, _], _ => rfl); (case a => k_is); (case l => k_is); (case c => k_is); (case k => k_is))
    (case r_tell_roots => (refine' Bl.raw_mk KX G ?a ?l ?c ?k fun _ _ _ _ _ _ us hl => match us, hl with | [_, _], _ => rfl); (case a => k_is); (case l => k_is); (case c => k_is); (case k => k_is))
    (case r_tell_raw => (refine' Bl.raw_mk KX G ?a ?l ?c ?k fun _ _ _ _ _ _ us hl => match us, hl with | [_], _ => rfl); (case a => k_is); (case l => k_is); (case c => k_is); (case k => k_is))
    (case r_kilograms_there => (refine' Bl.raw_mk KX G ?a ?l ?c ?k fun _ _ _ _ _ _ us hl => match us, hl with | [_], _ => rfl); (case a => k_is); (case l => k_is); (case c => k_is); (case k => k_is))
    (case r_tell_sums => (refine' Bl.raw_mk KX G ?a ?l ?c ?k fun _ _ _ _ _ _ us hl => match us, hl with | [_], _ => rfl); (case a => k_is); (case l => k_is); (case c => k_is); (case k => k_is))
    (case r_tell_state => (refine' Bl.raw_mk KX G ?a ?l ?c ?k fun _ _ _ _ _ _ us hl => match us, hl with | [_], _ => rfl); (case a => k_is); (case l => k_is); (case c => k_is); (case k => k_is))
    (case r_end_of_call => (refine' Bl.raw_mk KX G ?a ?l ?c ?k fun _ _ _ _ _ _ us hl => match us, hl with | [_, _], _ => rfl); (case a => k_is); (case l => k_is); (case c => k_is); (case k => k_is))
    (case r_answer_change => (refine' Bl.raw_mk KX G ?a ?l ?c ?k fun _ _ _ _ _ _ us hl => match us, hl with | [_, _], _ => rfl); (case a => k_is); (case l => k_is); (case c => k_is); (case k => k_is))
    (case r_answer_look => (refine' Bl.raw_mk KX G ?a ?l ?c ?k fun _ _ _ _ _ _ us hl => match us, hl with | [_, _], _ => rfl); (case a => k_is); (case l => k_is); (case c => k_is); (case k => k_is))
    (case r_answer_measure => (refine' Bl.raw_mk KX G ?a ?l ?c ?k fun _ _ _ _ _ _ us hl => match us, hl with | [_, _], _ => rfl); (case a => k_is); (case l => k_is); (case c => k_is); (case k => k_is))
    (case r_answer_overview => (refine' Bl.raw_mk KX G ?a ?l ?c ?k fun _ _ _ _ _ _ us hl => match us, hl with | [_, _], _ => rfl); (case a => k_is); (case l => k_is); (case c => k_is); (case k => k_is))
    (case r_answer_call => (refine' Bl.raw_mk KX G ?a ?l ?c ?k fun _ _ _ _ _ _ us hl => match us, hl with | [_, _], _ => rfl); (case a => k_is); (case l => k_is); (case c => k_is); (case k => k_is))
    (case T => (refine' Bl.Cst.mk (Bl.cst_mk KX G ?c_WHOLE) (Bl.cst_mk KX G ?c_LONGEST) (Bl.cst_mk KX G ?c_MILLION) (Bl.cst_mk KX G ?c_SIZE_COUNT) (Bl.cst_mk KX G ?c_NO_SUCH) (Bl.cst_mk KX G ?c_NOT_BEGUN) (Bl.cst_mk KX G ?c_GONE_OR_UNWASHED) (Bl.cst_mk KX G ?c_NO_WASTE) (Bl.cst_mk KX G ?c_OUT_OF_RANGE) (Bl.cst_mk KX G ?c_TOO_MANY) (Bl.cst_mk KX G ?c_NOT_SO) (Bl.cst_mk KX G ?c_NOT_DONE) (Bl.cst_mk KX G ?c_MOST_WARMTHS) (Bl.cst_mk KX G ?c_MOST_FIRSTS) (Bl.cst_mk KX G ?c_MOST_BATCHES) (Bl.cst_mk KX G ?c_MOST_LOST) (Bl.cst_mk KX G ?c_MOST_KILOGRAMS) (Bl.cst_mk KX G ?c_HALF_A_MILLION) (Bl.cst_mk KX G ?c_THOUSAND) (Bl.cst_mk KX G ?c_BEGIN) (Bl.cst_mk KX G ?c_WARM) (Bl.cst_mk KX G ?c_BATCH) (Bl.cst_mk KX G ?c_WASH) (Bl.cst_mk KX G ?c_SIEVE) (Bl.cst_mk KX G ?c_MIX) (Bl.cst_mk KX G ?c_HEAT) (Bl.cst_mk KX G ?c_ENOUGH) (Bl.cst_mk KX G ?c_PACK) (Bl.cst_mk KX G ?c_ALIVE) (Bl.cst_mk KX G ?c_WOULD) (Bl.cst_mk KX G ?c_NEED) (Bl.cst_mk KX G ?c_LEAVES) (Bl.cst_mk KX G ?c_BEST) (Bl.cst_mk KX G ?c_HOTTER) (Bl.cst_mk KX G ?c_HALF) (Bl.cst_mk KX G ?c_DONE) (Bl.cst_mk KX G ?c_KG) (Bl.cst_mk KX G ?c_SIZES) (Bl.cst_mk KX G ?c_MEAN) (Bl.cst_mk KX G ?c_PARTS) (Bl.cst_mk KX G ?c_LIVE) (Bl.cst_mk KX G ?c_OF) (Bl.cst_mk KX G ?c_ROOTS) (Bl.cst_mk KX G ?c_RAW) (Bl.cst_mk KX G ?c_SUMS) (PySem.W.mg_none_of KX G ?b_len) (PySem.W.mg_none_of KX G ?b_list) (PySem.W.mg_none_of KX G ?b_max) (PySem.W.mg_none_of KX G ?b_range) (PySem.W.mg_none_of KX G ?b_set) (PySem.W.mg_none_of KX G ?b_sorted) (PySem.W.mg_none_of KX G ?b_sum)); (case c_WHOLE => k_is); (case c_LONGEST => k_is); (case c_MILLION => k_is); (case c_SIZE_COUNT => k_is); (case c_NO_SUCH => k_is); (case c_NOT_BEGUN => k_is); (case c_GONE_OR_UNWASHED => k_is); (case c_NO_WASTE => k_is); (case c_OUT_OF_RANGE => k_is); (case c_TOO_MANY => k_is); (case c_NOT_SO => k_is); (case c_NOT_DONE => k_is); (case c_MOST_WARMTHS => k_is); (case c_MOST_FIRSTS => k_is); (case c_MOST_BATCHES => k_is); (case c_MOST_LOST => k_is); (case c_MOST_KILOGRAMS => k_is); (case c_HALF_A_MILLION => k_is); (case c_THOUSAND => k_is); (case c_BEGIN => k_is); (case c_WARM => k_is); (case c_BATCH => k_is); (case c_WASH => k_is); (case c_SIEVE => k_is); (case c_MIX => k_is); (case c_HEAT => k_is); (case c_ENOUGH => k_is); (case c_PACK => k_is); (case c_ALIVE => k_is); (case c_WOULD => k_is); (case c_NEED => k_is); (case c_LEAVES => k_is); (case c_BEST => k_is); (case c_HOTTER => k_is); (case c_HALF => k_is); (case c_DONE => k_is); (case c_KG => k_is); (case c_SIZES => k_is); (case c_MEAN => k_is); (case c_PARTS => k_is); (case c_LIVE => k_is); (case c_OF => k_is); (case c_ROOTS => k_is); (case c_RAW => k_is); (case c_SUMS => k_is); (case b_len => k_is); (case b_list => k_is); (case b_max => k_is); (case b_range => k_is); (case b_set => k_is); (case b_sorted => k_is); (case b_sum => k_is))
    (case a3 => k_is); (case l3 => k_is); (case c3 => k_is); (case k3 => k_is)
  case S =>
    intro K H xs a hO hwi hask hx
    cases hx with
    | cons h1 h2 =>
      cases h2
      cases h1 with
      | lst hs ha =>
        have e := L2.ints_dw a.1 _ ha
        subst e
        exact ⟨_, a.1, rfl, hs, hask, fun H' p hp => .lst (L2.SqL.of hp) (L2.dw_ints _)⟩
#print axioms PySem.Challenge.cw_blanched_s01_answers_holds
end
