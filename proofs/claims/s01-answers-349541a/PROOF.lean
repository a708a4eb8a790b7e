import PyProof.Rows.All
import Wide.All
import OpenK.AllK
import Wide.FinOn
import PyProof.EqAt
import PyProof.EqKinds
import PyProof.TupleCall
import KE.BitLaws
import KE.OsGo
import KE.OsArgs
import Open.SpecLaws
import PySem.Challenge.RW_matchkeeper_s01_answers
set_option Elab.async false
set_option linter.all false
set_option maxRecDepth 100000
namespace L2
open PySem PySem.Spec PyProof.Rows
abbrev Key := Sum Int Str
def keyIs : Key → Value → Bool
  | .inl k, v => Value.isInt k v
  | .inr x, v => Value.isStrOf x v
def keyH (w : World) : Key → Int
  | .inl k => hashInt k
  | .inr x => hashStr w x
theorem keyIs_shape : ∀ {k : Key} {v : Value}, keyIs k v = true → (∃ i t, k = Sum.inl i ∧ v = Value.int i t) ∨ (∃ x t, k = Sum.inr x ∧ v = Value.str x t)
  | .inl i, v, h => by
    obtain ⟨t, e⟩ := Value.isInt_shape (k := i) (v := v) h
    exact .inl ⟨i, t, rfl, e⟩
  | .inr x, v, h => by
    obtain ⟨t, e⟩ := Value.isStrOf_shape (x := x) (v := v) h
    exact .inr ⟨x, t, rfl, e⟩
theorem key_ll (a b : Int) : decide ((Sum.inl a : Key) = Sum.inl b) = (a == b) := by
  by_cases e : a = b
  · subst e; simp
  · have h : ¬ (Sum.inl a : Key) = Sum.inl b := fun q => e (Sum.inl.inj q)
    rw [decide_eq_false h]
    exact (beq_eq_false_iff_ne.mpr e).symm
theorem key_rr (a b : Str) : decide ((Sum.inr a : Key) = Sum.inr b) = decide (a = b) := by
  by_cases e : a = b
  · subst e; simp
  · have h : ¬ (Sum.inr a : Key) = Sum.inr b := fun q => e (Sum.inr.inj q)
    rw [decide_eq_false h, decide_eq_false e]
theorem key_lr (a : Int) (b : Str) : decide ((Sum.inl a : Key) = Sum.inr b) = false := decide_eq_false (fun q => nomatch q)
theorem key_rl (a : Str) (b : Int) : decide ((Sum.inr a : Key) = Sum.inl b) = false := decide_eq_false (fun q => nomatch q)
def mixKind (prog : Program) (w : World) : PySem.KeyKind prog w Key where
  is := keyIs
  hash := keyH w
  inj := fun v a b ha hb => by
    rcases keyIs_shape ha with ⟨i, t, rfl, rfl⟩ | ⟨x, t, rfl, rfl⟩
    · rcases keyIs_shape hb with ⟨j, u, rfl, e⟩ | ⟨y, u, rfl, e⟩
      · injection e with e1 _; rw [e1]
      · exact nomatch e
    · rcases keyIs_shape hb with ⟨j, u, rfl, e⟩ | ⟨y, u, rfl, e⟩
      · exact nomatch e
      · injection e with e1 _; rw [e1]
  byValue := fun k v h => by
    rcases keyIs_shape h with ⟨i, t, rfl, rfl⟩ | ⟨x, t, rfl, rfl⟩ <;> rfl
  pyHash := fun hv h => by
    rcases keyIs_shape hv with ⟨i, t, rfl, rfl⟩ | ⟨x, t, rfl, rfl⟩
    · exact wpAny_pyHash_int h
    · exact wpAny_pyHash_str h
  eqBool := fun hu hv h => by
    rcases keyIs_shape hu with ⟨i, t, rfl, rfl⟩ | ⟨x, t, rfl, rfl⟩
    · rcases keyIs_shape hv with ⟨j, u, rfl, rfl⟩ | ⟨y, u, rfl, rfl⟩
      · rw [key_ll] at h; exact wpAny_eqBool_int h
      · rw [key_lr] at h; exact SeqAt.EqAt.int_str i t y u _ _ _ _ h
    · rcases keyIs_shape hv with ⟨j, u, rfl, rfl⟩ | ⟨y, u, rfl, rfl⟩
      · rw [key_rl] at h; exact SeqAt.EqAt.str_int x t j u _ _ _ _ h
      · rw [key_rr] at h; exact wpAny_eqBool_str h
  «strs» := fun k x t v h => by
    rcases keyIs_shape h with ⟨i, u, rfl, e⟩ | ⟨y, u, rfl, e⟩
    · exact nomatch e
    · injection e with e1 _
      subst e1
      cases v <;> rfl
end L2
namespace L2
open PySem PySem.Spec PyProof.Rows
inductive V where
  | non | bl (b : Bool) | int (i : Int) | str (x : Str) | byt (b : Array UInt8) | flt (b : UInt64) | ref (a : Addr) | ty (n : String)
  deriving DecidableEq
def RelV : V → Value → Prop
  | .non, u => u = Value.none
  | .bl b, u => u = Value.bool b
  | .int i, u => ∃ t, u = Value.int i t
  | .str x, u => ∃ t, u = Value.str x t
  | .byt b, u => ∃ t, u = Value.bytes b t
  | .flt b, u => ∃ t, u = Value.float b t
  | .ref a, u => u = Value.ref a
  | .ty n, u => u = Value.type n
abbrev Vals : List V → List Value → Prop := Paired RelV
theorem Vals.length {xs : List V} {us : List Value} (r : Vals xs us) : xs.length = us.length := Paired.length r
theorem Vals.get : ∀ {xs : List V} {us : List Value} {i : Nat} {x : V}, Vals xs us → xs[i]? = some x → ∃ u, us[i]? = some u ∧ RelV x u
  | _, _, _, _, .nil, e => by simp at e
  | _, _, 0, _, .cons r _, e => by simp at e; subst e; exact ⟨_, rfl, r⟩
  | _, _, i + 1, x, .cons _ t, e => by
    obtain ⟨u, h1, h2⟩ := Vals.get (i := i) (x := x) t (by simpa using e)
    exact ⟨u, by simpa using h1, h2⟩
theorem Vals.set {x : V} {u : Value} (r : RelV x u) : ∀ {xs : List V} {us : List Value} (i : Nat), Vals xs us → Vals (xs.set i x) (us.set i u)
  | _, _, _, .nil => .nil
  | _, _, 0, .cons _ t => .cons r t
  | _, _, i + 1, .cons q t => .cons q (Vals.set r i t)
theorem Vals.append : ∀ {xs ys : List V} {us ws : List Value}, Vals xs us → Vals ys ws → Vals (xs ++ ys) (us ++ ws)
  | _, _, _, _, .nil, s => s
  | _, _, _, _, .cons r t, s => .cons r (Vals.append t s)
theorem Vals.take : ∀ {xs : List V} {us : List Value} (n : Nat), Vals xs us → Vals (xs.take n) (us.take n)
  | _, _, 0, _ => .nil
  | _, _, _ + 1, .nil => .nil
  | _, _, n + 1, .cons r t => .cons r (Vals.take n t)
theorem Vals.drop : ∀ {xs : List V} {us : List Value} (n : Nat), Vals xs us → Vals (xs.drop n) (us.drop n)
  | _, _, 0, r => r
  | _, _, _ + 1, .nil => .nil
  | _, _, n + 1, .cons _ t => Vals.drop n t
theorem Vals.none_of : ∀ {xs : List V} {us : List Value} {i : Nat}, Vals xs us → xs[i]? = none → us[i]? = none := fun {xs us i} r e => by
  have h1 := r.length
  have h2 : xs.length ≤ i := List.getElem?_eq_none_iff.mp e
  exact List.getElem?_eq_none_iff.mpr (by omega)
def RelO : Option V → Option Value → Prop
  | some v, some u => RelV v u
  | none, none => True
  | _, _ => False
def KV {κ : Type} : List (κ × V) → List (κ × Value) → Prop := Paired fun (p : κ × V) (q : κ × Value) => p.1 = q.1 ∧ RelV p.2 q.2
def kV : Key → V
  | .inl i => .int i
  | .inr x => .str x
inductive HO where
  /-- a list -/
  | lst (xs : List V)
  /-- a tuple (never changes) -/
  | tup (xs : List V)
  /-- a dict whose keys are ints and texts; one whose keys are tuples of ints and texts (the empty one is both) -/
  | dK (kvs : List (Key × V)) | dT (kvs : List (List Key × V))
  /-- a set of ints: its members, its size -/
  | set (S : Int → Bool) (n : Nat)
  /-- an instance of the class at C, its dict at dx, its attributes -/
  | ins (C dx : Addr) (fs : List (Str × V))
  /-- the dict of the instance at x -/
  | own (x : Addr)
  /-- the dict of an exception -/
  | xd (fs : List (Str × V))
  /-- a bound method, f of x -/
  | met (f x : Addr)
  /-- a range object lo, lo + 1, .. below hi -/
  | rng (lo hi : Int)
  /-- a thing that is known to the object (the script; a dict while a loop walks it): read, never written while it is so -/
  | frz (o : Obj) (u : HO)
  /-- a code object's table -/
  | tbl (ps : Array Value)
  /-- any other thing, by what is true of its one object (a def of one's own: SetO a S n := HO.ext fun h => ..) -/
  | ext (φ : Heap → Prop)
abbrev Hp := Addr → Option HO
def upd (H : Hp) (a : Addr) (o : HO) : Hp := fun b => if b = a then some o else H b
theorem upd_same {H : Hp} {a : Addr} {o : HO} : upd H a o a = some o := by unfold upd; rw [if_pos rfl]
theorem upd_ne {H : Hp} {a b : Addr} {o : HO} (h : b ≠ a) : upd H a o b = H b := by unfold upd; rw [if_neg h]
theorem upd_upd {H : Hp} {a : Addr} {o u : HO} : upd (upd H a o) a u = upd H a u := by
  funext b; unfold upd; split <;> rfl
theorem ne_of_none {H : Hp} {a b : Addr} {o : HO} (h : H a = some o) (h' : H b = none) : a ≠ b := by
  intro e; subst e; rw [h] at h'; cases h'
section
variable (P : Program) (w : World)
def ObjOk (H : Hp) (h : Heap) (a : Addr) : HO → Prop
  | .lst xs => xs.length ≤ sizeLine ∧ ∃ (its : List Value) (n : Nat), Vals xs its ∧ h.get? a = some { cls := .type "list", data := .seq its.toArray n }
  | .tup xs => xs.length ≤ sizeLine ∧ ∃ its : List Value, Vals xs its ∧ IsTup h a its.toArray
  | .dK kvs => kvs.length ≤ sizeLine ∧ (a == sysModules) = false ∧ ∃ vs, KV kvs vs ∧ h.DictOf (mixKind P w) a vs
  | .dT kvs => kvs.length ≤ sizeLine ∧ (a == sysModules) = false ∧ ∃ xs : List (List Key × Addr × Value),
      Paired (fun (p : List Key × V) (q : List Key × Addr × Value) => p.1 = q.1 ∧ H q.2.1 = some (.tup (p.1.map kV)) ∧ RelV p.2 q.2.2) kvs xs ∧
      ∃ o es ep, h.get? a = some o ∧ o.ExactDict ∧ o.data = .dict es ep ∧ es.toList = xs.map (entryOfKey (tupleKind (mixKind P w))) ∧ (xs.map (·.1)).Nodup
  | .set S n => h.SetOf (intKind P w) a S n
  | .ins C dx fs => H dx = some (.own a) ∧ fs.length ≤ 1000 ∧ dx ≠ a ∧ h.get? a = some (PySem.W.instObj C dx) ∧
      ∃ mA, h.Ns1 dx mA ∧ (∀ f, RelO (fs.lookup f) (mA f)) ∧ PySem.Within mA (fs.map (·.1))
  | .own _ => ∃ o, h.get? a = some o
  | .xd fs => ∃ mA, h.Ns1 a mA ∧ ∀ f, RelO (fs.lookup f) (mA f)
  | .rng lo hi => ∃ t u v, h.get? a = some { cls := .type "range", data := .fields #[.int lo t, .int hi u, .int 1 v] }
  | .frz o u => h.get? a = some o ∧ ObjOk H h a u
  | .tbl ps => h.get? a = some { cls := .none, data := .fields ps }
  | .met f x => h.get? a = some (PySem.W.methodObj (.ref f) (.ref x))
  | .ext φ => φ h ∧ (∃ o, h.get? a = some o) ∧ ∀ h1 h2 : Heap, φ h1 → (∀ o, h1.get? a = some o → h2.get? a = some o) → φ h2
def HOk (H : Hp) (h : Heap) : Prop := ∀ a o, H a = some o → ObjOk P w H h a o
end
section
variable {P : Program} {w : World} {H H' : Hp} {h h' : Heap} {a : Addr} {o : HO}
theorem ObjOk.lt (x : ObjOk P w H h a o) : a < h.objs.size := by
  cases o with
  | lst xs => obtain ⟨_, _, _, _, e⟩ := x; exact Heap.lt_size e
  | tup xs => obtain ⟨_, _, _, p⟩ := x; exact p.lt
  | dK kvs => obtain ⟨_, _, _, _, o, _, _, e, _⟩ := x; exact Heap.lt_size e
  | dT kvs => obtain ⟨_, _, _, _, o, _, _, e, _⟩ := x; exact Heap.lt_size e
  | set S n => obtain ⟨o, _, _, _, e, _⟩ := x; exact Heap.lt_size e
  | ins C dx fs => obtain ⟨_, _, _, e, _⟩ := x; exact Heap.lt_size e
  | own y => obtain ⟨_, e⟩ := x; exact Heap.lt_size e
  | xd fs => obtain ⟨_, ⟨_, _, _, e, _⟩, _⟩ := x; exact Heap.lt_size e
  | rng lo hi => obtain ⟨_, _, _, e⟩ := x; exact Heap.lt_size e
  | frz ob u => obtain ⟨e, _⟩ := x; exact Heap.lt_size e
  | tbl ps => exact Heap.lt_size (show h.get? a = some _ from x)
  | met f y => exact Heap.lt_size (show h.get? a = some _ from x)
  | ext φ => obtain ⟨_, ⟨_, e⟩, _⟩ := x; exact Heap.lt_size e
theorem Paired.mapP {α β : Type} {F G : α → β → Prop} : ∀ {l₁ : List α} {l₂ : List β}, Paired F l₁ l₂ → (∀ a b, F a b → G a b) → Paired G l₁ l₂
  | _, _, .nil, _ => .nil
  | _, _, .cons r t, f => .cons (f _ _ r) (Paired.mapP t f)
theorem ObjOk.stay (x : ObjOk P w H h a o) (k : ∀ b u, (b = a ∨ H b = some (.own a)) → h.get? b = some u → h'.get? b = some u)
    (ho : ∀ b, H b = some (.own a) → H' b = some (.own a)) (ht : ∀ b xs, H b = some (.tup xs) → H' b = some (.tup xs)) : ObjOk P w H' h' a o := by
  induction o with
  | lst xs => obtain ⟨z, its, n, r, e⟩ := x; exact ⟨z, its, n, r, k _ _ (.inl rfl) e⟩
  | tup xs => obtain ⟨z, its, r, ob, e, c⟩ := x; exact ⟨z, its, r, ob, k _ _ (.inl rfl) e, c⟩
  | dK kvs => obtain ⟨z, y, vs, r, ob, es, ep, e, c⟩ := x; exact ⟨z, y, vs, r, ob, es, ep, k _ _ (.inl rfl) e, c⟩
  | dT kvs =>
    obtain ⟨z, y, xs, r, ob, es, ep, e, c⟩ := x
    exact ⟨z, y, xs, Paired.mapP r fun p q z => ⟨z.1, ht _ _ z.2.1, z.2.2⟩, ob, es, ep, k _ _ (.inl rfl) e, c⟩
  | set S n => obtain ⟨ob, es, ep, t, e, c⟩ := x; exact ⟨ob, es, ep, t, k _ _ (.inl rfl) e, c⟩
  | ins C dx fs =>
    obtain ⟨d, z, ne, e, mA, ⟨od, es, ep, e2, c⟩, r⟩ := x
    exact ⟨ho _ d, z, ne, k _ _ (.inl rfl) e, mA, ⟨od, es, ep, k _ _ (.inr d) e2, c⟩, r⟩
  | own y => obtain ⟨ob, e⟩ := x; exact ⟨ob, k _ _ (.inl rfl) e⟩
  | xd fs => obtain ⟨mA, ⟨od, es, ep, e, c⟩, r⟩ := x; exact ⟨mA, ⟨od, es, ep, k _ _ (.inl rfl) e, c⟩, r⟩
  | rng lo hi => obtain ⟨t, u, v, e⟩ := x; exact ⟨t, u, v, k _ _ (.inl rfl) e⟩
  | frz ob u ih => obtain ⟨e, q⟩ := x; exact ⟨k _ _ (.inl rfl) e, ih q⟩
  | tbl ps =>
    have e : h.get? a = some { cls := .none, data := .fields ps } := x
    show h'.get? a = some { cls := .none, data := .fields ps }
    exact k a _ (.inl rfl) e
  | met f y =>
    have e : h.get? a = some (PySem.W.methodObj (.ref f) (.ref y)) := x
    show h'.get? a = some (PySem.W.methodObj (.ref f) (.ref y))
    exact k a _ (.inl rfl) e
  | ext φ => obtain ⟨p, ⟨o, e⟩, st⟩ := x; exact ⟨st _ _ p fun o q => k _ _ (.inl rfl) q, ⟨o, k _ _ (.inl rfl) e⟩, st⟩
theorem HOk.lt (x : HOk P w H h) (e : H a = some o) : a < h.objs.size := (x a o e).lt
theorem HOk.fresh (x : HOk P w H h) (e : h.objs.size ≤ a) : H a = none := by
  cases q : H a with
  | none => rfl
  | some u => exact absurd (Nat.lt_of_lt_of_le (x.lt q) e) (Nat.lt_irrefl _)
theorem HOk.kept (x : HOk P w H h) (k : ∀ b u, h.get? b = some u → h'.get? b = some u) : HOk P w H h' := fun a o e =>
  (x a o e).stay (fun b u _ q => k b u q) (fun _ q => q) fun _ _ q => q
theorem HOk.laid (x : HOk P w H h) (k : ∀ b u, h.get? b = some u → h'.get? b = some u) (hp : h.objs.size ≤ a) (new : ObjOk P w (upd H a o) h' a o) : HOk P w (upd H a o) h' := fun b u e => by
  have hn := x.fresh hp
  by_cases hb : b = a
  · subst hb; rw [upd_same] at e; cases e; exact new
  · rw [upd_ne hb] at e
    exact (x b u e).stay (fun c v _ q => k c v q) (fun c q => by rw [upd_ne (ne_of_none q hn)]; exact q) fun c xs q => by rw [upd_ne (ne_of_none q hn)]; exact q
end
def Rd (H : Hp) (a : Addr) (u : HO) : Prop := H a = some u ∨ ∃ o, H a = some (.frz o u)
theorem Rd.of {H : Hp} {a : Addr} {u : HO} (h : H a = some u) : Rd H a u := .inl h
theorem Rd.ok {P : Program} {w : World} {H : Hp} {h : Heap} {a : Addr} {u : HO} (r : Rd H a u) (x : HOk P w H h) : ObjOk P w H h a u := by
  rcases r with r | ⟨o, r⟩
  · exact x a u r
  · obtain ⟨_, q⟩ := x a _ r
    exact q
def Mut : Option HO → Prop
  | some (.lst _) => True
  | some (.dK _) => True
  | some (.dT _) => True
  | some (.set _ _) => True
  | some (.ins _ _ _) => True
  | some (.ext _) => True
  | _ => False
section
variable {P : Program} {w : World} {H : Hp} {h h' : Heap} {x e : Addr} {o' : HO}
theorem HOk.write (ok : HOk P w H h) (mu : Mut (H x)) (he : e = x ∨ H e = some (.own x)) (k : ∀ b u, b ≠ e → h.get? b = some u → h'.get? b = some u) (heo : ∃ u, h'.get? e = some u)
    (new : ObjOk P w (upd H x o') h' x o') : HOk P w (upd H x o') h' := fun b u q => by
  have nown : ∀ c y, H c = some (.own y) → c ≠ x := fun c y r z => by subst z; rw [r] at mu; exact mu
  have ntup : ∀ c xs, H c = some (.tup xs) → c ≠ x := fun c xs r z => by subst z; rw [r] at mu; exact mu
  by_cases hb : b = x
  · subst hb; rw [upd_same] at q; cases q; exact new
  · rw [upd_ne hb] at q
    by_cases hbe : b = e
    · have q' : H b = some (.own x) := by
        rcases he with z | z
        · exact absurd (hbe.trans z) hb
        · rw [hbe]; exact z
      rw [q] at q'; cases q'
      obtain ⟨v, hv⟩ := heo
      exact ⟨v, by rw [hbe]; exact hv⟩
    · refine (ok b u q).stay (fun c v hc r => k c v ?_ r) (fun c r => by rw [upd_ne (nown c b r)]; exact r) fun c xs r => by rw [upd_ne (ntup c xs r)]; exact r
      rcases hc with rfl | hc
      · exact hbe
      · rintro rfl
        rcases he with z | z
        · exact nown c b hc z
        · rw [hc] at z; cases z; exact hb rfl
end
structure Un (fs ex : List Addr) (H H' : Hp) (h h' : Heap) : Prop where
  keep : ∀ b o, h.get? b = some o → H b = none → b ∉ fs → b ∉ ex → h'.get? b = some o
  slot : ∀ b o, h.get? b = some o → H b = none → b ∈ fs → b ∉ ex → ∃ sl, h'.get? b = some { o with slots := sl }
  free : ∀ b o, h.get? b = some o → H b = none → b ∉ ex → H' b = none
  there : ∀ b o, h.get? b = some o → b ∉ ex → ∃ o', h'.get? b = some o'
  tups : ∀ b xs, H b = some (.tup xs) → H' b = some (.tup xs)
  frzs : ∀ b o u, H b = some (.frz o u) → H' b = some (.frz o u)
  tbls : ∀ b ps, H b = some (.tbl ps) → ∃ more, H' b = some (.tbl (ps ++ more))
section
variable {fs fs' ex ex' : List Addr} {H H1 H2 : Hp} {h h1 h2 h' : Heap} {a x e : Addr} {o : HO}
theorem Un.any (u : Un fs ex H H1 h h1) {b : Addr} {ob : Obj} (q : h.get? b = some ob) (n : H b = none) (hx : b ∉ ex) : ∃ sl, h1.get? b = some { ob with slots := sl } := by
  by_cases hb : b ∈ fs
  · exact u.slot b ob q n hb hx
  · exact ⟨ob.slots, u.keep b ob q n hb hx⟩
theorem Un.trans (a : Un fs ex H H1 h h1) (b : Un fs ex H1 H2 h1 h2) : Un fs ex H H2 h h2 where
  keep := fun c ob q n hc hx => b.keep c ob (a.keep c ob q n hc hx) (a.free c ob q n hx) hc hx
  slot := fun c ob q n hc hx => by
    obtain ⟨sl, e1⟩ := a.slot c ob q n hc hx
    obtain ⟨sl', e2⟩ := b.slot c _ e1 (a.free c ob q n hx) hc hx
    exact ⟨sl', e2⟩
  free := fun c ob q n hx => by
    obtain ⟨o', e1⟩ := a.there c ob q hx
    exact b.free c o' e1 (a.free c ob q n hx) hx
  there := fun c ob q hx => by
    obtain ⟨o', e1⟩ := a.there c ob q hx
    exact b.there c o' e1 hx
  tups := fun c xs q => b.tups c xs (a.tups c xs q)
  frzs := fun c ob xs q => b.frzs c ob xs (a.frzs c ob xs q)
  tbls := fun c ps q => by
    obtain ⟨m1, e1⟩ := a.tbls c ps q
    obtain ⟨m2, e2⟩ := b.tbls c _ e1
    exact ⟨m1 ++ m2, by rw [e2, Array.append_assoc]⟩
theorem Un.kept (k : ∀ b u, h.get? b = some u → h'.get? b = some u) : Un fs ex H H h h' :=
  ⟨fun b ob q _ _ _ => k b ob q, fun b ob q _ _ _ => ⟨ob.slots, k b ob q⟩, fun _ _ _ n _ => n, fun b ob q _ => ⟨ob, k b ob q⟩, fun _ _ q => q, fun _ _ _ q => q, fun _ ps q => ⟨#[], by rw [q]; simp⟩⟩
theorem Un.refl : Un fs ex H H h h := Un.kept fun _ _ q => q
theorem Un.laid (k : ∀ b u, h.get? b = some u → h'.get? b = some u) (hp : h.objs.size ≤ a) (hn : H a = none) : Un fs ex H (upd H a o) h h' where
  keep := fun b u q _ _ _ => k b u q
  slot := fun b u q _ _ _ => ⟨u.slots, k b u q⟩
  free := fun b u q n _ => by rw [upd_ne (Nat.ne_of_lt (Nat.lt_of_lt_of_le (Heap.lt_size q) hp))]; exact n
  there := fun b u q _ => ⟨u, k b u q⟩
  tups := fun b xs q => by rw [upd_ne (ne_of_none q hn)]; exact q
  frzs := fun b u xs q => by rw [upd_ne (ne_of_none q hn)]; exact q
  tbls := fun b ps q => ⟨#[], by rw [upd_ne (ne_of_none q hn), q]; simp⟩
theorem Un.write (mu : Mut (H x)) (he : e = x ∨ H e = some (.own x)) (k : ∀ b u, b ≠ e → h.get? b = some u → h'.get? b = some u) (heo : ∃ u, h'.get? e = some u) : Un fs ex H (upd H x o) h h' := by
  have hx : ∀ b, H b = none → b ≠ x := fun b n z => by subst z; rw [n] at mu; exact mu
  have hb : ∀ b, H b = none → b ≠ e := fun b n z => by
    subst z
    rcases he with r | r
    · exact hx b n r
    · rw [n] at r; cases r
  have hm : ∀ b u, H b = some u → ¬ Mut (some u) → b ≠ x := fun b u q nm z => by subst z; rw [q] at mu; exact nm mu
  refine ⟨fun b u q n _ _ => k b u (hb b n) q, fun b u q n _ _ => ⟨u.slots, k b u (hb b n) q⟩, fun b u q n _ => by rw [upd_ne (hx b n)]; exact n, fun b u q _ => ?_,
    fun b xs q => by rw [upd_ne (hm b _ q fun z => z)]; exact q, fun b u xs q => by rw [upd_ne (hm b _ q fun z => z)]; exact q, fun b ps q => ⟨#[], by rw [upd_ne (hm b _ q fun z => z), q]; simp⟩⟩
  by_cases hbe : b = e
  · subst hbe; exact heo
  · exact ⟨u, k b u hbe q⟩
theorem Un.mono (u : Un fs ex H H1 h h1) (hs : ∀ b ∈ fs, b ∈ fs') (hx : ∀ b ∈ ex, b ∈ ex') : Un fs' ex' H H1 h h1 :=
  ⟨fun b ob q n hb he => u.keep b ob q n (fun z => hb (hs b z)) fun z => he (hx b z), fun _ _ q n _ he => u.any q n fun z => he (hx _ z), fun b ob q n he => u.free b ob q n fun z => he (hx b z), fun b ob q he => u.there b ob q fun z => he (hx b z), u.tups, u.frzs, u.tbls⟩
end
def trk (h : Heap) (H : Hp) : List Addr := (List.range h.objs.size).filter fun a => (H a).isSome
def hidT (h : Heap) (H : Hp) : Heap := PySem.W.hideAll h (trk h H)
theorem hidT_size (h : Heap) (H : Hp) : (hidT h H).objs.size = h.objs.size := PySem.W.hideAll_size _ _
theorem hidT_get {h : Heap} {H : Hp} {b : Addr} {o : Obj} (e : h.get? b = some o) (n : H b = none) : (hidT h H).get? b = some o :=
  PySem.W.hideAll_get _ e fun hm => by
    have q : (H b).isSome = true := (List.mem_filter.mp hm).2
    rw [n] at q; simp at q
theorem of_hidT {h : Heap} {H : Hp} {b : Addr} {o : Obj} (e : (hidT h H).get? b = some o) : h.get? b = some o ∧ H b = none := by
  have e' : h.get? b = some o := PySem.W.of_hideAll (trk h H) e
  refine ⟨e', ?_⟩
  cases q : H b with
  | none => rfl
  | some x =>
    have hm : b ∈ trk h H := List.mem_filter.mpr ⟨List.mem_range.mpr (Heap.lt_size e'), by simp [q]⟩
    have z : (hidT h H).get? b = none := PySem.W.hideAll_none (trk h H) hm
    rw [z] at e; cases e
def allNews (g h : Heap) (L : Addr) : List (Addr × Obj) := (List.range h.objs.size).filterMap fun a => if a = L ∨ (g.get? a).isSome = true then none else (h.get? a).map fun o => (a, o)
def rest (g h : Heap) (L d : Addr) : List (Addr × Obj) := (allNews g h L).filter fun p => decide (p.1 ≠ d)
end L2
namespace L2
open PySem PySem.Spec PyProof.Rows
structure Mod (K : PySem.W.Frag) (mg : Str → Option Value) (base : Heap) : Prop where
  kin : K.In base
  glob : base.Ns mainGlobals mg
  blt : ∃ mb, base.Ns builtinsNs mb ∧ ∀ x : Str, x ≠ "__name__" → mb x = bootBuiltins x
  nolimit : base.NoLimit
structure Cx where
  prog : Program
  w : World
  K : PySem.W.Frag
  mg : Str → Option Value
  base : Heap
  A : Around
  N : List Str
  s_0 : Shared
  H_0 : Hp
  env : Env
  outer : List Env
  stack : List Env
  ex : List Addr
  fn : Str → Bool
  calm : Bool
  pn : List (Addr × Obj)
  xe : Value → Shared → Prop
def frs (l : List Env) : List Addr := l.filterMap (·.frame)
abbrev Cx.fs (X : Cx) : List Addr := frs X.outer
def Vis (sc : Scope) (x : Str) : Prop := sc.names.lookup x = some .local ∨ sc.names.lookup x = some .cell ∨ sc.names.lookup x = some .free
def Loc (sc : Scope) (x : Str) : Prop := sc.names.lookup x = some .local ∨ sc.names.lookup x = some .cell
def Look (env : Env) (h : Heap) (m : Str → Option Value) (x : Str) (u : Value) : Prop :=
  (env.kindOf x = some .local ∧ m x = some u) ∨ ((env.kindOf x = some .cell ∨ env.kindOf x = some .free) ∧ ∃ c, env.cells.lookup x = some c ∧ h.IsCell c (some u))
structure Cx.Ok (X : Cx) : Prop where
  mod : Mod X.K X.mg X.base
  kind : X.env.scope.kind = .function
  glob : X.env.globals = mainGlobals
  blt : X.env.builtins = builtinsNs
  above : X.s_0.heap.objs.size ≤ X.env.locals
  inj : ∀ x y c, X.env.cells.lookup x = some c → X.env.cells.lookup y = some c → x = y
  has : ∀ x, (X.env.kindOf x = some .cell ∨ X.env.kindOf x = some .free) → ∃ c, X.env.cells.lookup x = some c
  cab : ∀ x c, X.fn x = true → X.env.cells.lookup x = some c → X.s_0.heap.objs.size ≤ c
  hd : X.calm = true → X.A.handled = none
  frames : X.A.frames = some X.stack
  stk : X.stack = X.outer ∨ (X.stack = X.env :: X.outer ∧ X.env.frame = some X.env.locals)
  exf : ∀ b ∈ X.ex, b ≠ X.env.locals ∧ ∀ x c, X.env.cells.lookup x = some c → c ≠ b
  bs : ∀ b o, X.base.get? b = some o → X.s_0.heap.get? b = some o ∧ X.H_0 b = none
  bsz : X.base.objs.size ≤ X.s_0.heap.objs.size
  noex : ∀ b o, X.base.get? b = some o → b ∉ X.ex
  exfs : ∀ b ∈ X.ex, b ∉ X.fs
  funs : X.s_0.heap.FunFrames X.base X.outer
  frf : ∀ b ∈ X.fs, X.H_0 b = none
structure Inv (X : Cx) (pins : List (Addr × Obj)) (σ : List (Option V)) (H : Hp) (s : Shared) : Prop where
  ok : X.Ok
  os : s.os = X.s_0.os
  bare : AllBare s.gens
  base : Un X.fs X.ex X.H_0 H X.s_0.heap s.heap
  loc : ∃ m, s.heap.Ns X.env.locals m ∧ ∀ (i : Nat) (x : Str) (v : V), X.N[i]? = some x → σ[i]? = some (some v) → Vis X.env.scope x → ∃ u, RelV v u ∧ Look X.env s.heap m x u
  cell : ∀ x c, X.env.cells.lookup x = some c → ∃ v, s.heap.IsCell c v
  free : H X.env.locals = none
  freeC : ∀ x c, X.env.cells.lookup x = some c → H c = none
  pin : ∀ p ∈ X.pn ++ pins, s.heap.get? p.1 = some p.2 ∧ H p.1 = none ∧ p.1 ≠ X.env.locals ∧ p.1 ∉ X.fs ∧ ∀ v, p.2.data ≠ .cell v
  hok : HOk X.prog X.w H s.heap
  len : σ.length = X.N.length
section
variable {X : Cx} {pins : List (Addr × Obj)} {σ : List (Option V)} {H H' : Hp} {s : Shared} {h' : Heap}
theorem Cx.Ok.nofr (ok : X.Ok) {b : Addr} {o : Obj} (e : X.base.get? b = some o) : b ∉ X.fs := fun hb => by
  have := (ok.funs.mem hb).1
  rw [e] at this; cases this
theorem Inv.bs (I : Inv X pins σ H s) : ∀ b o, X.base.get? b = some o → s.heap.get? b = some o ∧ H b = none := fun b o e =>
  ⟨I.base.keep b o (I.ok.bs b o e).1 (I.ok.bs b o e).2 (I.ok.nofr e) (I.ok.noex b o e), I.base.free b o (I.ok.bs b o e).1 (I.ok.bs b o e).2 (I.ok.noex b o e)⟩
theorem Inv.bk (I : Inv X pins σ H s) : ∀ b o, X.base.get? b = some o → s.heap.get? b = some o := fun b o e => (I.bs b o e).1
theorem Inv.mod (I : Inv X pins σ H s) : Mod X.K X.mg X.base := I.ok.mod
theorem Inv.kIn (I : Inv X pins σ H s) : X.K.In s.heap := I.ok.mod.kin.keeps I.bk
theorem Inv.nolimit (I : Inv X pins σ H s) : s.heap.NoLimit := I.ok.mod.nolimit.keeps I.bk
theorem Inv.fr (I : Inv X pins σ H s) : ∃ m, Fr X.base X.env.locals s.heap m :=
  let ⟨m, hn, _⟩ := I.loc
  ⟨m, hn, I.bk, Nat.le_trans I.ok.bsz I.ok.above⟩
theorem Inv.lt (I : Inv X pins σ H s) : X.env.locals < s.heap.objs.size := let ⟨_, hn, _⟩ := I.loc; hn.lt
theorem Inv.sz (I : Inv X pins σ H s) : X.s_0.heap.objs.size ≤ s.heap.objs.size := Nat.le_trans I.ok.above (Nat.le_of_lt I.lt)
theorem Inv.nofs (I : Inv X pins σ H s) {a : Addr} (h : s.heap.objs.size ≤ a) : a ∉ X.fs := fun hb => by
  obtain ⟨_, o, ho, _⟩ := I.ok.funs.mem hb
  exact absurd (Nat.lt_of_lt_of_le (Heap.lt_size ho) (Nat.le_trans I.sz h)) (Nat.lt_irrefl _)
theorem Inv.cne (I : Inv X pins σ H s) : ∀ x c, X.env.cells.lookup x = some c → c ≠ X.env.locals := fun x c e z => by
  obtain ⟨v, o, ho, hd⟩ := I.cell x c e
  obtain ⟨m, ⟨o', es, ep, ho', hd', _⟩, _⟩ := I.loc
  rw [z, ho'] at ho; cases ho; rw [hd'] at hd; cases hd
theorem Inv.funs (I : Inv X pins σ H s) : s.heap.FunFrames X.base X.outer := by
  have all : ∀ (l : List Env), (∀ b ∈ frs l, b ∈ X.fs) → X.s_0.heap.FunFrames X.base l → s.heap.FunFrames X.base l := by
    intro l
    induction l with
    | nil => intro _ _; trivial
    | cons env r ih =>
      intro hs hl
      obtain ⟨hk, ⟨L, o, hf, hn, ho, hd⟩, hr⟩ := hl
      have hL : L ∈ X.fs := hs L (by unfold frs; rw [List.filterMap_cons, hf]; exact List.mem_cons_self)
      obtain ⟨sl, e⟩ := I.base.slot L o ho (I.ok.frf L hL) hL fun z => I.ok.exfs L z hL
      exact ⟨hk, ⟨L, _, hf, hn, e, hd⟩, ih (fun b hb => hs b (by unfold frs; rw [List.filterMap_cons, hf]; exact List.mem_cons_of_mem _ hb)) hr⟩
  exact all X.outer (fun _ hb => hb) I.ok.funs
theorem Inv.stack (I : Inv X pins σ H s) : s.heap.FunFrames X.base X.stack := by
  rcases I.ok.stk with e | ⟨e, hf⟩
  · rw [e]; exact I.funs
  · rw [e]
    obtain ⟨m, hn, _⟩ := I.loc
    refine .cons (by rw [I.ok.kind]; decide) hf hn ?_ I.funs
    exact Heap.get?_none_of_le (Nat.le_trans I.ok.bsz I.ok.above)
theorem Inv.stkSub (I : Inv X pins σ H s) : ∀ b ∈ frs X.stack, b ∈ X.env.locals :: X.fs := fun b hb => by
  rcases I.ok.stk with e | ⟨e, hf⟩
  · rw [e] at hb; exact List.mem_cons_of_mem _ hb
  · rw [e] at hb
    unfold frs at hb
    rw [List.filterMap_cons, hf] at hb
    exact hb
theorem Inv.stkFree (I : Inv X pins σ H s) : ∀ b ∈ frs X.stack, H b = none := fun b hb => by
  rcases List.mem_cons.mp (I.stkSub b hb) with e | hb
  · rw [e]; exact I.free
  · obtain ⟨_, o, ho, _⟩ := I.ok.funs.mem hb
    exact I.base.free b o ho (I.ok.frf b hb) fun z => I.ok.exfs b z hb
theorem Inv.step {g' : Array GenState} {t' : Nat} {d' : Drawn} {ch : List Addr} (I : Inv X pins σ H s)
    (hch : ∀ b ∈ ch, (b ∈ X.ex ∨ X.s_0.heap.objs.size ≤ b) ∧ b ≠ X.env.locals ∧ (∀ x c, X.env.cells.lookup x = some c → c ≠ b) ∧ ∀ p ∈ X.pn ++ pins, p.1 ≠ b)
    (keep : ∀ b o, b ≠ X.env.locals → b ∉ X.fs → b ∉ ch → s.heap.get? b = some o → H b = none → h'.get? b = some o)
    (slot : ∀ b o, b ≠ X.env.locals → b ∈ X.fs → b ∉ ch → s.heap.get? b = some o → H b = none → ∃ sl, h'.get? b = some { o with slots := sl }) (free : ∀ b o, b ∉ ch → s.heap.get? b = some o → H b = none → H' b = none)
    (there : ∀ b o, b ∉ ch → s.heap.get? b = some o → ∃ o', h'.get? b = some o')
    (tups : ∀ b xs, H b = some (.tup xs) → H' b = some (.tup xs)) (frzs : ∀ b o u, H b = some (.frz o u) → H' b = some (.frz o u)) (tbls : ∀ b ps, H b = some (.tbl ps) → ∃ more, H' b = some (.tbl (ps ++ more)))
    (ns : ∀ m, s.heap.Ns X.env.locals m → h'.Ns X.env.locals m) (hok : HOk X.prog X.w H' h') (hg : AllBare g') :
    Inv X pins σ H' { s with heap := h', gens := g', drawn := d', toks := t' } := by
  have neL : ∀ b o, X.s_0.heap.get? b = some o → b ≠ X.env.locals := fun b o e => Nat.ne_of_lt (Nat.lt_of_lt_of_le (Heap.lt_size e) I.ok.above)
  have neC : ∀ b o, X.s_0.heap.get? b = some o → b ∉ X.ex → b ∉ ch := fun b o e hx hb => by
    rcases (hch b hb).1 with z | z
    · exact hx z
    · exact absurd (Nat.lt_of_lt_of_le (Heap.lt_size e) z) (Nat.lt_irrefl _)
  have cellK : ∀ x c, X.env.cells.lookup x = some c → ∀ v, s.heap.IsCell c v → h'.IsCell c v := fun x c e v ⟨o, ho, hd⟩ => by
    have nch : c ∉ ch := fun z => (hch c z).2.2.1 x c e rfl
    by_cases hc : c ∈ X.fs
    · obtain ⟨sl, q⟩ := slot c o (I.cne x c e) hc nch ho (I.freeC x c e)
      exact ⟨_, q, hd⟩
    · exact ⟨o, keep c o (I.cne x c e) hc nch ho (I.freeC x c e), hd⟩
  refine ⟨I.ok, I.os, hg, ⟨fun b o e n hb hx => ?_, fun b o e n hb hx => ?_, fun b o e n hx => ?_, fun b o e hx => ?_, fun b xs e => tups b xs (I.base.tups b xs e), fun b o xs e => frzs b o xs (I.base.frzs b o xs e), fun b ps e => ?_⟩, ?_, fun x c e => ?_, ?_, fun x c e => ?_, fun p hp => ?_, hok, I.len⟩
  · exact keep b o (neL b o e) hb (neC b o e hx) (I.base.keep b o e n hb hx) (I.base.free b o e n hx)
  · obtain ⟨sl, e1⟩ := I.base.slot b o e n hb hx
    obtain ⟨sl', e2⟩ := slot b _ (neL b o e) hb (neC b o e hx) e1 (I.base.free b o e n hx)
    exact ⟨sl', e2⟩
  · obtain ⟨o', e1⟩ := I.base.there b o e hx
    exact free b o' (neC b o e hx) e1 (I.base.free b o e n hx)
  · obtain ⟨o', e1⟩ := I.base.there b o e hx
    exact there b o' (neC b o e hx) e1
  · obtain ⟨m1, e1⟩ := I.base.tbls b ps e
    obtain ⟨m2, e2⟩ := tbls b _ e1
    exact ⟨m1 ++ m2, by rw [e2, Array.append_assoc]⟩
  · obtain ⟨m, hn, hl⟩ := I.loc
    refine ⟨m, ns m hn, fun i x v e1 e2 e3 => ?_⟩
    obtain ⟨u, r, l⟩ := hl i x v e1 e2 e3
    refine ⟨u, r, ?_⟩
    rcases l with l | ⟨k, c, e, z⟩
    · exact .inl l
    · exact .inr ⟨k, c, e, cellK x c e _ z⟩
  · obtain ⟨v, z⟩ := I.cell x c e
    exact ⟨v, cellK x c e v z⟩
  · obtain ⟨m, ⟨o, _, _, ho, _⟩, _⟩ := I.loc
    exact free _ o (fun z => (hch _ z).2.1 rfl) ho I.free
  · obtain ⟨v, o, ho, hd⟩ := I.cell x c e
    exact free c o (fun z => (hch c z).2.2.1 x c e rfl) ho (I.freeC x c e)
  · obtain ⟨e, n, ne, nf, d⟩ := I.pin p hp
    have nch : p.1 ∉ ch := fun z => (hch p.1 z).2.2.2 p hp rfl
    exact ⟨keep p.1 p.2 ne nf nch e n, free p.1 p.2 nch e n, ne, nf, d⟩
theorem Inv.un {t' : Nat} (I : Inv X pins σ H s) (u : Un X.fs [] H H' s.heap h') (hok : HOk X.prog X.w H' h') : Inv X pins σ H' { s with heap := h', toks := t' } := by
  obtain ⟨m, ⟨o, es, ep, ho, r⟩, _⟩ := id I.loc
  obtain ⟨sl, hL⟩ := u.any ho I.free (by simp)
  exact I.step (g' := s.gens) (d' := s.drawn) (ch := []) (fun _ z => nomatch z) (fun b o _ hb _ e n => u.keep b o e n hb (by simp)) (fun b o _ hb _ e n => u.slot b o e n hb (by simp)) (fun b o _ e n => u.free b o e n (by simp)) (fun b o _ e => u.there b o e (by simp)) u.tups u.frzs u.tbls (fun m' hm => by
    obtain ⟨o', es', ep', ho', r'⟩ := hm
    rw [ho] at ho'; cases ho'
    exact ⟨_, es', ep', hL, r'⟩) hok I.bare
theorem Inv.call {g' : Array GenState} {t' : Nat} {d' : Drawn} {ch : List Addr} (I : Inv X pins σ H s) (u : Un (frs X.stack) ch H H' s.heap h') (hok : HOk X.prog X.w H' h') (hg : AllBare g')
    (hch : ∀ b ∈ ch, (b ∈ X.ex ∨ X.s_0.heap.objs.size ≤ b) ∧ b ≠ X.env.locals ∧ (∀ x c, X.env.cells.lookup x = some c → c ≠ b) ∧ ∀ p ∈ X.pn ++ pins, p.1 ≠ b) :
    Inv X pins σ H' { s with heap := h', gens := g', drawn := d', toks := t' } := by
  obtain ⟨m, ⟨o, es, ep, ho, r⟩, _⟩ := id I.loc
  obtain ⟨sl, hL⟩ := u.any ho I.free fun z => (hch _ z).2.1 rfl
  exact I.step (ch := ch) hch (fun b o hL hb hc e n => u.keep b o e n (fun z => (List.mem_cons.mp (I.stkSub b z)).elim hL hb) hc) (fun b o _ _ hc e n => u.any e n hc) (fun b o hc e n => u.free b o e n hc) (fun b o hc e => u.there b o e hc) u.tups u.frzs u.tbls (fun m' hm => by
    obtain ⟨o', es', ep', ho', r'⟩ := hm
    rw [ho] at ho'; cases ho'
    exact ⟨_, es', ep', hL, r'⟩) hok hg
theorem Inv.turned {t' : Nat} {it : Addr} (I : Inv X pins σ H s) (k : ∀ b o, b ≠ it → s.heap.get? b = some o → h'.get? b = some o) (hn : H it = none) (hL : it ≠ X.env.locals)
    (h1 : it ∈ X.ex ∨ X.s_0.heap.objs.size ≤ it) (h2 : ∀ x c, X.env.cells.lookup x = some c → c ≠ it) (h3 : ∀ p ∈ X.pn ++ pins, p.1 ≠ it) : Inv X pins σ H { s with heap := h', toks := t' } := by
  have nit : ∀ b u, H b = some u → b ≠ it := fun b u e z => by rw [z, hn] at e; cases e
  refine I.step (g' := s.gens) (d' := s.drawn) (ch := [it]) (fun b hb => ?_) (fun b o _ _ hc e _ => k b o (fun z => hc (by simp [z])) e) (fun b o _ _ hc e _ => ⟨o.slots, k b o (fun z => hc (by simp [z])) e⟩) (fun _ _ _ _ n => n)
    (fun b o hc e => ⟨o, k b o (fun z => hc (by simp [z])) e⟩) (fun _ _ e => e) (fun _ _ _ e => e) (fun b ps e => ⟨#[], by rw [e]; simp⟩) (fun m hm => ?_) (fun b u e => ?_) I.bare
  · have e : b = it := by simpa using hb
    subst e
    exact ⟨h1, hL, h2, h3⟩
  · obtain ⟨o, es, ep, ho, r⟩ := hm
    exact ⟨o, es, ep, k _ o (Ne.symm hL) ho, r⟩
  · refine (I.hok b u e).stay (fun c v hc q => k c v ?_ q) (fun _ q => q) fun _ _ q => q
    rcases hc with z | z
    · rw [z]; exact nit b u e
    · exact nit c _ z
theorem Inv.tok (I : Inv X pins σ H s) (t : Nat) : Inv X pins σ H { s with toks := t } := I.un (h' := s.heap) (t' := t) Un.refl I.hok
theorem Inv.kept {t' : Nat} (I : Inv X pins σ H s) (k : ∀ b u, s.heap.get? b = some u → h'.get? b = some u) : Inv X pins σ H { s with heap := h', toks := t' } := I.un (Un.kept k) (I.hok.kept k)
theorem Inv.laid {a : Addr} {o : HO} {t' : Nat} (I : Inv X pins σ H s) (k : ∀ b u, s.heap.get? b = some u → h'.get? b = some u) (hp : s.heap.objs.size ≤ a) (new : ObjOk X.prog X.w (upd H a o) h' a o) :
    Inv X pins σ (upd H a o) { s with heap := h', toks := t' } := I.un (Un.laid k hp (I.hok.fresh hp)) (I.hok.laid k hp new)
theorem Inv.write {x e : Addr} {o : HO} {t' : Nat} (I : Inv X pins σ H s) (mu : Mut (H x)) (he : e = x ∨ H e = some (.own x)) (k : ∀ b u, b ≠ e → s.heap.get? b = some u → h'.get? b = some u) (heo : ∃ u, h'.get? e = some u)
    (new : ObjOk X.prog X.w (upd H x o) h' x o) : Inv X pins σ (upd H x o) { s with heap := h', toks := t' } := I.un (Un.write mu he k heo) (I.hok.write mu he k heo new)
theorem Inv.weak {σ' : List (Option V)} (I : Inv X pins σ H s) (hl : σ'.length = σ.length) (w : ∀ (i : Nat) v, σ'[i]? = some (some v) → σ[i]? = some (some v)) : Inv X pins σ' H s :=
  ⟨I.ok, I.os, I.bare, I.base, let ⟨m, hn, hl'⟩ := I.loc; ⟨m, hn, fun i x v e1 e2 e3 => hl' i x v e1 (w i v e2) e3⟩, I.cell, I.free, I.freeC, I.pin, I.hok, hl.trans I.len⟩
theorem Inv.pins_of {pins' : List (Addr × Obj)} (I : Inv X pins σ H s) (h : ∀ p ∈ pins', s.heap.get? p.1 = some p.2 ∧ H p.1 = none ∧ p.1 ≠ X.env.locals ∧ p.1 ∉ X.fs ∧ ∀ v, p.2.data ≠ .cell v) : Inv X pins' σ H s :=
  ⟨I.ok, I.os, I.bare, I.base, I.loc, I.cell, I.free, I.freeC, fun p hp => (List.mem_append.mp hp).elim (fun z => I.pin p (List.mem_append_left _ z)) (h p), I.hok, I.len⟩
theorem nodup_ix {N : List Str} (hN : N.Nodup) {i j : Nat} {x : Str} (a : N[i]? = some x) (b : N[j]? = some x) : i = j := by
  obtain ⟨h1, e1⟩ := List.getElem?_eq_some_iff.mp a
  obtain ⟨h2, e2⟩ := List.getElem?_eq_some_iff.mp b
  exact (List.getElem_inj hN).mp (e1.trans e2.symm)
theorem store_ok2 {M : Model} {A : Around} {E : Value → Shared → Prop} {i : Nat} {x : Str} {v : V} {u : Value} {Q : Unit → Shared → Prop} (I : Inv X pins σ H s) (hN : X.N.Nodup) (hi : X.N[i]? = some x) (hx : Loc X.env.scope x) (r : RelV v u)
    (h : ∀ s', Inv X pins (σ.set i (some v)) H s' → (∃ a, Heap.SameBut a s.heap s'.heap ∧ (a = X.env.locals ∨ X.env.cells.lookup x = some a)) → Q () s') (hf : X.fn x = true ∨ X.env.scope.names.lookup x = some .local := by first | exact .inl rfl | exact .inr rfl | assumption) : wpAny M A (storeName X.env x u) Q E s := by
  obtain ⟨m, hn, hl⟩ := id I.loc
  have hcls : (X.env.scope.kind == .class || (X.env.scope.kind == .module && X.env.locals != X.env.globals)) = false := by rw [I.ok.kind]; rfl
  have hiσ : i < σ.length := by rw [I.len]; exact (List.getElem?_eq_some_iff.mp hi).1
  have cne := I.cne
  have tracked : ∀ {a : Addr} {h' : Heap}, (∃ o, s.heap.get? a = some o ∧ H a = none) → Heap.SameBut a s.heap h' → HOk X.prog X.w H h' := fun {a h'} ha hs b ob e => by
    obtain ⟨_, _, hfree⟩ := ha
    refine (I.hok b ob e).stay (fun c w' hc q => (hs.2 c ?_).trans q) (fun _ q => q) fun _ _ q => q
    rintro rfl
    rcases hc with rfl | hc
    · rw [hfree] at e; cases e
    · rw [hfree] at hc; cases hc
  rcases hx with hk | hk
  · refine wpAny_storeName_local hk hn (fun h' hn' hs => ?_) hcls
    obtain ⟨oL, _, _, hoL, _⟩ := id hn
    refine h _ ⟨I.ok, I.os, I.bare, ⟨fun b o e n hb hx => ?_, fun b o e n hb hx => ?_, I.base.free, fun b o e hx => ?_, I.base.tups, I.base.frzs, I.base.tbls⟩, ⟨_, hn', fun j y v' e1 e2 e3 => ?_⟩, fun y c e => ?_, I.free, I.freeC, fun p hp => ?_, tracked ⟨oL, hoL, I.free⟩ hs, by simpa using I.len⟩ ⟨_, hs, .inl rfl⟩
    · exact (hs.2 b (Nat.ne_of_lt (Nat.lt_of_lt_of_le (Heap.lt_size e) I.ok.above))).trans (I.base.keep b o e n hb hx)
    · obtain ⟨sl, e1⟩ := I.base.slot b o e n hb hx
      exact ⟨sl, (hs.2 b (Nat.ne_of_lt (Nat.lt_of_lt_of_le (Heap.lt_size e) I.ok.above))).trans e1⟩
    · obtain ⟨o', e1⟩ := I.base.there b o e hx
      exact ⟨o', (hs.2 b (Nat.ne_of_lt (Nat.lt_of_lt_of_le (Heap.lt_size e) I.ok.above))).trans e1⟩
    · by_cases hj : j = i
      · subst hj
        rw [hi] at e1; cases e1
        rw [List.getElem?_set_self hiσ] at e2
        cases e2
        exact ⟨u, r, .inl ⟨hk, by simp⟩⟩
      · rw [List.getElem?_set_ne (Ne.symm hj)] at e2
        obtain ⟨u', r', q⟩ := hl j y v' e1 e2 e3
        refine ⟨u', r', ?_⟩
        rcases q with ⟨k, e⟩ | ⟨k, c, e, z⟩
        · refine .inl ⟨k, ?_⟩
          have : y ≠ x := fun e => hj (nodup_ix hN e1 (e ▸ hi))
          simp [this, e]
        · exact .inr ⟨k, c, e, z.sameBut hs (cne y c e)⟩
    · obtain ⟨w', z⟩ := I.cell y c e
      exact ⟨w', z.sameBut hs (cne y c e)⟩
    · obtain ⟨e, n, ne, nf, d⟩ := I.pin p hp
      exact ⟨(hs.2 p.1 ne).trans e, n, ne, nf, d⟩
  · have hfn : X.fn x = true := by
      rcases hf with z | z
      · exact z
      · rw [z] at hk; cases hk
    obtain ⟨c, hc⟩ := I.ok.has x (.inl hk)
    obtain ⟨w', z⟩ := I.cell x c hc
    refine wpAny_storeName_cell I.ok.kind hk hc z (fun h' hc' hs => ?_)
    obtain ⟨oc, hoc, hocd⟩ := id z
    refine h { s with heap := h' } ⟨I.ok, I.os, I.bare, ⟨fun b o e n hb hx => ?_, fun b o e n hb hx => ?_, I.base.free, fun b o e hx => ?_, I.base.tups, I.base.frzs, I.base.tbls⟩, ⟨m, hn.sameBut hs (Ne.symm (cne x c hc)), fun j y v' e1 e2 e3 => ?_⟩, fun y c' e => ?_, I.free, I.freeC, fun p hp => ?_, tracked ⟨oc, hoc, I.freeC x c hc⟩ hs, by simpa using I.len⟩ ⟨c, hs, .inr hc⟩
    · exact (hs.2 b (Nat.ne_of_lt (Nat.lt_of_lt_of_le (Heap.lt_size e) (I.ok.cab x c hfn hc)))).trans (I.base.keep b o e n hb hx)
    · obtain ⟨sl, e1⟩ := I.base.slot b o e n hb hx
      exact ⟨sl, (hs.2 b (Nat.ne_of_lt (Nat.lt_of_lt_of_le (Heap.lt_size e) (I.ok.cab x c hfn hc)))).trans e1⟩
    · obtain ⟨o', e1⟩ := I.base.there b o e hx
      exact ⟨o', (hs.2 b (Nat.ne_of_lt (Nat.lt_of_lt_of_le (Heap.lt_size e) (I.ok.cab x c hfn hc)))).trans e1⟩
    · by_cases hj : j = i
      · subst hj
        rw [hi] at e1; cases e1
        rw [List.getElem?_set_self hiσ] at e2
        cases e2
        exact ⟨u, r, .inr ⟨.inl hk, c, hc, hc'⟩⟩
      · rw [List.getElem?_set_ne (Ne.symm hj)] at e2
        obtain ⟨u', r', q⟩ := hl j y v' e1 e2 e3
        refine ⟨u', r', ?_⟩
        rcases q with q | ⟨k, c', e, z'⟩
        · exact .inl q
        · refine .inr ⟨k, c', e, z'.sameBut hs ?_⟩
          rintro rfl
          exact hj (nodup_ix hN e1 (I.ok.inj _ _ _ e hc ▸ hi))
    · by_cases hcc : c' = c
      · subst hcc; exact ⟨_, hc'⟩
      · obtain ⟨w2, z2⟩ := I.cell y c' e
        exact ⟨w2, z2.sameBut hs hcc⟩
    · obtain ⟨e, n, ne, nf, d⟩ := I.pin p hp
      refine ⟨(hs.2 p.1 ?_).trans e, n, ne, nf, d⟩
      intro q
      rw [q, hoc] at e
      have q' : oc = p.2 := Option.some.inj e
      exact d w' (by rw [← q']; exact hocd)
theorem store_ok {M : Model} {A : Around} {E : Value → Shared → Prop} {i : Nat} {x : Str} {v : V} {u : Value} {Q : Unit → Shared → Prop} (I : Inv X pins σ H s) (hN : X.N.Nodup) (hi : X.N[i]? = some x) (hx : Loc X.env.scope x) (r : RelV v u)
    (h : ∀ s', Inv X pins (σ.set i (some v)) H s' → Q () s') (hf : X.fn x = true ∨ X.env.scope.names.lookup x = some .local := by first | exact .inl rfl | exact .inr rfl | assumption) : wpAny M A (storeName X.env x u) Q E s :=
  store_ok2 I hN hi hx r (fun s' I' _ => h s' I') hf
theorem Inv.call' {s' : Shared} {ch : List Addr} (I : Inv X pins σ H s) (ho : s'.os = s.os) (u : Un (frs X.stack) ch H H' s.heap s'.heap) (hok : HOk X.prog X.w H' s'.heap) (hg : AllBare s'.gens)
    (hch : ∀ b ∈ ch, (b ∈ X.ex ∨ X.s_0.heap.objs.size ≤ b) ∧ b ≠ X.env.locals ∧ (∀ x c, X.env.cells.lookup x = some c → c ≠ b) ∧ ∀ p ∈ X.pn ++ pins, p.1 ≠ b) : Inv X pins σ H' s' := by
  obtain ⟨h', g', d', t', o'⟩ := s'
  have e : o' = s.os := ho
  subst e
  exact I.call (g' := g') (t' := t') (d' := d') u hok hg hch
end
abbrev XK := Value → Option Addr → Hp → Prop
abbrev St := List (Option V)
abbrev VK := V → Hp → Prop
abbrev TE := St → Hp → VK → Prop
abbrev TT := St → Hp → (Bool → Hp → Prop) → Prop
abbrev TA := St → Hp → (List V → Hp → Prop) → Prop
structure Ends where
  nx : St → Hp → Prop
  rt : VK
  bk : St → Hp → Prop := fun _ _ => False
  ct : St → Hp → Prop := fun _ _ => False
abbrev TS := Ends → St → Hp → Prop
def EP (X : Cx) (pins : List (Addr × Obj)) (σ : St) (Q : VK) (u : Value) (s' : Shared) : Prop := ∃ v H', Inv X pins σ H' s' ∧ RelV v u ∧ Q v H'
def TP (X : Cx) (pins : List (Addr × Obj)) (σ : St) (Q : Bool → Hp → Prop) (b : Bool) (s' : Shared) : Prop := ∃ H', Inv X pins σ H' s' ∧ Q b H'
def AP (X : Cx) (pins : List (Addr × Obj)) (σ : St) (Q : List V → Hp → Prop) (us : List Value) (s' : Shared) : Prop := ∃ vs H', Inv X pins σ H' s' ∧ Vals vs us ∧ Q vs H'
def SP (X : Cx) (pins : List (Addr × Obj)) (D : Ends) (f : Flow) (s' : Shared) : Prop :=
  match f with
  | .next => ∃ σ' H', Inv X pins σ' H' s' ∧ D.nx σ' H'
  | .brk => ∃ σ' H', Inv X pins σ' H' s' ∧ D.bk σ' H'
  | .cont => ∃ σ' H', Inv X pins σ' H' s' ∧ D.ct σ' H'
  | .ret u => ∃ v σ' H', Inv X pins σ' H' s' ∧ RelV v u ∧ D.rt v H'
def PE (X : Cx) (e : Expr) (t : TE) : Prop :=
  ∀ (pins : List (Addr × Obj)) (s : Shared) (σ : St) (H : Hp) (Q : VK), Inv X pins σ H s → t σ H Q → wpAny (model X.prog X.w) X.A (eval e X.env) (EP X pins σ Q) X.xe s
def PT (X : Cx) (e : Expr) (t : TT) : Prop :=
  ∀ (pins : List (Addr × Obj)) (s : Shared) (σ : St) (H : Hp) (Q : Bool → Hp → Prop), Inv X pins σ H s → t σ H Q → wpAny (model X.prog X.w) X.A (isTrue e X.env (eval e X.env)) (TP X pins σ Q) X.xe s
def PW (X : Cx) (e : Expr) (t : TT) : Prop :=
  ∀ (whole : Sem Value) (pins : List (Addr × Obj)) (s : Shared) (σ : St) (H : Hp) (Q : Bool → Hp → Prop), Inv X pins σ H s → t σ H Q → wpAny (model X.prog X.w) X.A (isTrue e X.env whole) (TP X pins σ Q) X.xe s
theorem PW.pt {X : Cx} {e : Expr} {t : TT} (h : PW X e t) : PT X e t := h _
def PA (X : Cx) (es : List Expr) (t : TA) : Prop :=
  ∀ (pos : Pos) (pins : List (Addr × Obj)) (s : Shared) (σ : St) (H : Hp) (Q : List V → Hp → Prop), Inv X pins σ H s → t σ H Q → wpAny (model X.prog X.w) X.A (spliced (backTo pos (starEach es X.env))) (AP X pins σ Q) X.xe s
def PS (X : Cx) (st : Stmt) (t : TS) : Prop :=
  ∀ (pins : List (Addr × Obj)) (s : Shared) (σ : St) (H : Hp) (D : Ends), Inv X pins σ H s → t D σ H → wpAny (model X.prog X.w) X.A (exec st X.env) (SP X pins D) X.xe s
def PSs (X : Cx) (st : List Stmt) (t : TS) : Prop :=
  ∀ (pins : List (Addr × Obj)) (s : Shared) (σ : St) (H : Hp) (D : Ends), Inv X pins σ H s → t D σ H → wpAny (model X.prog X.w) X.A (execs st X.env) (SP X pins D) X.xe s
theorem thn {α : Type} {t : Sem α} {Q Q' : α → Shared → Prop} {M : Model} {A : Around} {E : Value → Shared → Prop} {s : Shared} (h : wpAny M A t Q E s) (hQ : ∀ a s, Q a s → Q' a s) : wpAny M A t Q' E s := wpAny_mono h hQ fun _ _ x => x
end L2
namespace L2
open PySem PySem.Spec PyProof.Rows
section
variable {X : Cx}
theorem bin {a b : Expr} {ta tb : TE} (ha : PE X a ta) (hb : PE X b tb) {pins : List (Addr × Obj)} {s : Shared} {σ : St} {H : Hp} {R : V → V → Hp → Prop} (I : Inv X pins σ H s) (h : ta σ H fun x H1 => tb σ H1 fun y H2 => R x y H2)
    {α : Type} {Q : α → Shared → Prop} {f : Value → Value → Sem α}
    (hf : ∀ v u s2 x y H2, Inv X pins σ H2 s2 → RelV x v → RelV y u → R x y H2 → wpAny (model X.prog X.w) X.A (f v u) Q X.xe s2) :
    wpAny (model X.prog X.w) X.A (eval a X.env) (fun v s₁ => wpAny (model X.prog X.w) X.A (eval b X.env) (fun u s₂ => wpAny (model X.prog X.w) X.A (f v u) Q X.xe s₂) X.xe s₁) X.xe s := by
  refine thn (ha pins s σ H _ I h) fun v s1 ⟨x, H1, I1, r1, q1⟩ => ?_
  refine thn (hb pins s1 σ H1 _ I1 q1) fun u s2 ⟨y, H2, I2, r2, q2⟩ => ?_
  exact hf v u s2 x y H2 I2 r1 r2 q2
def tVar (i : Nat) : TE := fun σ H Q => ∃ v, σ[i]? = some (some v) ∧ Q v H
def tC (v : V) : TE := fun _ H Q => Q v H
theorem pe_var {i : Nat} {x : Str} {pos : Pos} (hN : X.N[i]? = some x) (hv : Vis X.env.scope x) (hd : (x == ("__debug__" : Str)) = false := by decide) (hcd : (x == ("__classdict__" : Str)) = false := by decide) : PE X (.Name x pos) (tVar i) := by
  intro pins s σ H Q I h
  obtain ⟨v, e, h⟩ := h
  obtain ⟨m, hn, hl⟩ := I.loc
  obtain ⟨u, r, l⟩ := hl i x v hN e hv
  have fin : EP X pins σ Q u s := ⟨v, H, I, r, h⟩
  rcases l with ⟨hk, hm⟩ | ⟨hk, c, hc, hcell⟩
  · exact wpAny_Name (wpAny_loadName_local I.ok.kind hk hn hm fin) hd
  · rcases hk with hk | hk
    · exact wpAny_Name (wpAny_loadName_cell I.ok.kind hk hc hcell fin) hd
    · exact wpAny_Name (wpAny_loadName_free I.ok.kind hk hc hcell fin hcd) hd
theorem pe_int {i j pos} : PE X (.Constant (.int i) j pos) (tC (.int i)) := fun _ _ _ H _ I h => wpAny_Constant_int ⟨.int i, H, I.tok _, ⟨_, rfl⟩, h⟩
theorem pe_bl {b j pos} : PE X (.Constant (.bool b) j pos) (tC (.bl b)) := fun _ _ _ H _ I h => Constant_bool ⟨.bl b, H, I, rfl, h⟩
theorem pe_non {j pos} : PE X (.Constant .none j pos) (tC .non) := fun _ _ _ H _ I h => Constant_none ⟨.non, H, I, rfl, h⟩
def Gl (X : Cx) (x : Str) : Prop := X.env.kindOf x = some .globalImplicit
theorem ld_glob {E : Value → Shared → Prop} {pins : List (Addr × Obj)} {s : Shared} {σ : St} {H : Hp} {x : Str} {u : Value} {pos : Pos} {Q : Value → Shared → Prop} (I : Inv X pins σ H s) (hg : Gl X x) (hm : X.mg x = some u) (h : Q u s)
    (hd : (x == ("__debug__" : Str)) = false := by decide) : wpAny (model X.prog X.w) X.A (eval (.Name x pos) X.env) Q E s :=
  Calls.Name_function_global I.ok.kind hg (Calls.loadGlobal_global (by rw [I.ok.glob]; exact I.mod.glob.keeps I.bk) hm h) hd
theorem ld_blt {E : Value → Shared → Prop} {pins : List (Addr × Obj)} {s : Shared} {σ : St} {H : Hp} {x : Str} {u : Value} {pos : Pos} {Q : Value → Shared → Prop} (I : Inv X pins σ H s) (hg : Gl X x) (hm : X.mg x = none) (hv : bootBuiltins x = some u) (h : Q u s)
    (hn : x ≠ "__name__" := by decide) (hd : (x == ("__debug__" : Str)) = false := by decide) : wpAny (model X.prog X.w) X.A (eval (.Name x pos) X.env) Q E s := by
  obtain ⟨mb, h1, h2⟩ := I.mod.blt
  exact Calls.Name_function_global I.ok.kind hg (Calls.loadGlobal_builtin (by rw [I.ok.glob]; exact I.mod.glob.keeps I.bk) hm (by rw [I.ok.blt]; exact h1.keeps I.bk) ((h2 x hn).trans hv) h) hd
theorem pe_glob {x : Str} {v : V} {u : Value} {pos : Pos} (hg : Gl X x) (hm : X.mg x = some u) (r : RelV v u) (hd : (x == ("__debug__" : Str)) = false := by decide) : PE X (.Name x pos) (tC v) :=
  fun _ _ _ H _ I h => ld_glob I hg hm ⟨v, H, I, r, h⟩ hd
def t2I (ta tb : TE) (k : Int → Int → Hp → Prop) : St → Hp → Prop := fun σ H => ta σ H fun x H1 => tb σ H1 fun y H2 => ∃ i j, x = .int i ∧ y = .int j ∧ k i j H2
def tAdd (ta tb : TE) : TE := fun σ H Q => t2I ta tb (fun i j H2 => Q (.int (i + j)) H2) σ H
def tSub (ta tb : TE) : TE := fun σ H Q => t2I ta tb (fun i j H2 => Q (.int (i - j)) H2) σ H
variable {a b : Expr} {ta tb : TE} {pos : Pos}
theorem pe_add (ha : PE X a ta) (hb : PE X b tb) : PE X (.BinOp a .Add b pos) (tAdd ta tb) := by
  intro pins s σ H Q I h
  refine wpAny_BinOp (bin ha hb I h fun v u s2 x y H2 I2 rx ry q => ?_)
  obtain ⟨i, j, rfl, rfl, q⟩ := q
  obtain ⟨t, rfl⟩ := rx
  obtain ⟨t', rfl⟩ := ry
  exact add_int ⟨.int _, H2, I2.tok _, ⟨_, rfl⟩, q⟩
theorem pe_sub (ha : PE X a ta) (hb : PE X b tb) : PE X (.BinOp a .Sub b pos) (tSub ta tb) := by
  intro pins s σ H Q I h
  refine wpAny_BinOp (bin ha hb I h fun v u s2 x y H2 I2 rx ry q => ?_)
  obtain ⟨i, j, rfl, rfl, q⟩ := q
  obtain ⟨t, rfl⟩ := rx
  obtain ⟨t', rfl⟩ := ry
  exact sub_int ⟨.int _, H2, I2.tok _, ⟨_, rfl⟩, q⟩
def PC (X : Cx) (op : CmpOp) (a b : Expr) (t : TE) : Prop :=
  ∀ (pins : List (Addr × Obj)) (s : Shared) (σ : St) (H : Hp) (Q : VK), Inv X pins σ H s → t σ H Q →
    wpAny (model X.prog X.w) X.A (eval a X.env) (fun v s₁ => wpAny (model X.prog X.w) X.A (eval b X.env) (fun u s₂ => wpAny (model X.prog X.w) X.A (compareOp op v u) (EP X pins σ Q) X.xe s₂) X.xe s₁) X.xe s
theorem nobehind (b : Expr) {op : CmpOp} (h : op ≠ .In) (h2 : op ≠ .NotIn) : behindInMarks op b = false := by
  have e1 : (op == CmpOp.In) = false := by cases op <;> first | rfl | exact absurd rfl h
  have e2 : (op == CmpOp.NotIn) = false := by cases op <;> first | rfl | exact absurd rfl h2
  cases b <;> simp [behindInMarks, e1, e2]
def tCmp (p : Int → Int → Bool) (ta tb : TE) : TE := fun σ H Q => t2I ta tb (fun i j H2 => Q (.bl (p i j)) H2) σ H
abbrev tLt : TE → TE → TE := tCmp fun i j => decide (i < j)
abbrev tLe : TE → TE → TE := tCmp fun i j => decide (i ≤ j)
abbrev tGt : TE → TE → TE := tCmp fun i j => decide (j < i)
abbrev tGe : TE → TE → TE := tCmp fun i j => decide (j ≤ i)
theorem pc_int {op : CmpOp} {p : Int → Int → Bool} (ha : PE X a ta) (hb : PE X b tb)
    (rule : ∀ (i j : Int) (t u : Tok) (Q : Value → Shared → Prop) (s : Shared), Q (.bool (p i j)) s → wpAny (model X.prog X.w) X.A (compareOp op (.int i t) (.int j u)) Q X.xe s) : PC X op a b (tCmp p ta tb) := by
  intro pins s σ H Q I h
  refine bin ha hb I h fun v u s2 x y H2 I2 rx ry q => ?_
  obtain ⟨i, j, rfl, rfl, q⟩ := q
  obtain ⟨t, rfl⟩ := rx
  obtain ⟨t', rfl⟩ := ry
  exact rule i j t t' _ s2 ⟨.bl _, H2, I2, rfl, q⟩
theorem pc_lt (ha : PE X a ta) (hb : PE X b tb) : PC X .Lt a b (tLt ta tb) := pc_int ha hb fun _ _ _ _ _ _ h => lt_int h
theorem pc_le (ha : PE X a ta) (hb : PE X b tb) : PC X .LtE a b (tLe ta tb) := pc_int ha hb fun _ _ _ _ _ _ h => le_int h
theorem pc_gt (ha : PE X a ta) (hb : PE X b tb) : PC X .Gt a b (tGt ta tb) := pc_int ha hb fun _ _ _ _ _ _ h => gt_int h
theorem pc_ge (ha : PE X a ta) (hb : PE X b tb) : PC X .GtE a b (tGe ta tb) := pc_int ha hb fun _ _ _ _ _ _ h => ge_int h
def tIsN (ta : TE) : TE := fun σ H Q => ta σ H fun x H1 => Q (.bl (decide (x = .non))) H1
def tNotN (ta : TE) : TE := fun σ H Q => ta σ H fun x H1 => Q (.bl (!decide (x = .non))) H1
theorem RelV.none_iff {x : V} {v : Value} (r : RelV x v) : (v == Value.none) = decide (x = .non) := by
  cases x with
  | non => cases r; rfl
  | bl _ => cases r; rfl
  | int _ => obtain ⟨t, rfl⟩ := r; rfl
  | str _ => obtain ⟨t, rfl⟩ := r; rfl
  | byt _ => obtain ⟨t, rfl⟩ := r; rfl
  | flt _ => obtain ⟨t, rfl⟩ := r; rfl
  | ref _ => cases r; rfl
  | ty _ => cases r; rfl
theorem pc_isN {j pos'} (ha : PE X a ta) : PC X .Is a (.Constant .none j pos') (tIsN ta) := by
  intro pins s σ H Q I h
  refine thn (ha pins s σ H _ I h) fun v s1 ⟨x, H1, I1, r1, q1⟩ => ?_
  exact Constant_none (is_none_gen ⟨.bl _, H1, I1, by rw [r1.none_iff]; rfl, q1⟩)
theorem pc_notN {j pos'} (ha : PE X a ta) : PC X .IsNot a (.Constant .none j pos') (tNotN ta) := by
  intro pins s σ H Q I h
  refine thn (ha pins s σ H _ I h) fun v s1 ⟨x, H1, I1, r1, q1⟩ => ?_
  exact Constant_none (isnot_none_gen ⟨.bl _, H1, I1, by rw [r1.none_iff]; rfl, q1⟩)
def tB (t : TE) : TT := fun σ H Q => t σ H fun x H1 => ∃ c, x = .bl c ∧ Q c H1
theorem pe_cmp {op : CmpOp} {t : TE} (h : PC X op a b t) (h1 : behindInMarks op b = false := by first | exact nobehind _ (by decide) (by decide) | rfl) : PE X (.Compare a [op] [b] pos) t := fun pins s σ H Q I hw => wpAny_Compare1 (h pins s σ H Q I hw) h1
theorem pt_cmp {op : CmpOp} {t : TE} (h : PC X op a b t) (h1 : behindInMarks op b = false := by first | exact nobehind _ (by decide) (by decide) | rfl) : PT X (.Compare a [op] [b] pos) (tB t) := by
  intro pins s σ H Q I hw
  refine wpAny_isTrue_Compare1 (thn (h pins s σ H _ I hw) fun v s1 h1 => thn h1 fun u s2 h2 => thn h2 fun c s3 ⟨x, H1, I1, r1, q1⟩ => ?_) h1
  obtain ⟨d, rfl, q⟩ := q1
  cases r1
  exact wpAny_truthy_bool ⟨H1, I1, q⟩
theorem pt_val {e : Expr} {t : TE} (h : PE X e t) (he : ∀ whole, isTrue e X.env whole = (do let v ← whole; standAt e.pos; holding [v] (truthy v)) := by intro _; rfl) : PT X e (tB t) := by
  intro pins s σ H Q I hw
  refine isTrue_plain (thn (h pins s σ H _ I hw) fun v s1 ⟨x, H1, I1, r1, q1⟩ => ?_) (he _)
  obtain ⟨d, rfl, q⟩ := q1
  cases r1
  exact wpAny_truthy_bool ⟨H1, I1, q⟩
variable {tA tB' : TT} {rest : List Expr}
def tAnd (t u : TT) : TT := fun σ H Q => t σ H fun c H1 => if c = true then u σ H1 Q else Q false H1
def tOr (t u : TT) : TT := fun σ H Q => t σ H fun c H1 => if c = true then Q true H1 else u σ H1 Q
def tNot (t : TT) : TT := fun σ H Q => t σ H fun c H1 => Q (!c) H1
theorem pw_and1 (ha : PT X a tA) : PW X (.BoolOp .And [a] pos) tA := by
  intro wh pins s σ H Q I h
  refine isTrue_and (thn (ha pins s σ H Q I h) fun c s1 e => ?_)
  cases c with
  | true => exact isTrue_and_nil e
  | false => exact e
theorem pw_or1 (ha : PT X a tA) : PW X (.BoolOp .Or [a] pos) tA := by
  intro wh pins s σ H Q I h
  refine isTrue_or (thn (ha pins s σ H Q I h) fun c s1 e => ?_)
  cases c with
  | false => exact isTrue_or_nil e
  | true => exact e
theorem pw_and (ha : PT X a tA) (hb : PW X (.BoolOp .And (b :: rest) pos) tB') : PW X (.BoolOp .And (a :: b :: rest) pos) (tAnd tA tB') := by
  intro wh pins s σ H Q I h
  refine isTrue_and (thn (ha pins s σ H _ I h) fun c s1 ⟨H1, I1, q1⟩ => ?_)
  cases c with
  | true => exact hb wh pins s1 σ H1 Q I1 q1
  | false => exact ⟨H1, I1, q1⟩
theorem pw_or (ha : PT X a tA) (hb : PW X (.BoolOp .Or (b :: rest) pos) tB') : PW X (.BoolOp .Or (a :: b :: rest) pos) (tOr tA tB') := by
  intro wh pins s σ H Q I h
  refine isTrue_or (thn (ha pins s σ H _ I h) fun c s1 ⟨H1, I1, q1⟩ => ?_)
  cases c with
  | true => exact ⟨H1, I1, q1⟩
  | false => exact hb wh pins s1 σ H1 Q I1 q1
theorem pt_not (ha : PT X a tA) : PT X (.UnaryOp .Not a pos) (tNot tA) := by
  intro pins s σ H Q I h
  exact isTrue_not (ha pins s σ H (fun c H1 => Q (!c) H1) I h)
def tAndV (ta tb : TE) : TE := fun σ H Q => ta σ H fun x H1 => ∃ c, x = .bl c ∧ if c = true then tb σ H1 Q else Q (.bl false) H1
def tOrV (ta tb : TE) : TE := fun σ H Q => ta σ H fun x H1 => ∃ c, x = .bl c ∧ if c = true then Q (.bl true) H1 else tb σ H1 Q
def tNotV (ta : TE) : TE := fun σ H Q => ta σ H fun x H1 => ∃ c, x = .bl c ∧ Q (.bl (!c)) H1
theorem pe_one {op} {t : TE} (h : PE X a t) : PE X (.BoolOp op [a] pos) t := fun pins s σ H Q I hw => BoolOp_one (h pins s σ H Q I hw)
theorem pe_and (ha : PE X a ta) (hb : PE X (.BoolOp .And (b :: rest) pos) tb) : PE X (.BoolOp .And (a :: b :: rest) pos) (tAndV ta tb) := by
  intro pins s σ H Q I h
  refine BoolOp_and (thn (ha pins s σ H _ I h) fun v s1 ⟨x, H1, I1, r1, q1⟩ => ?_)
  obtain ⟨c, rfl, q1⟩ := q1
  cases r1
  refine wpAny_truthy_bool ?_
  cases c with
  | true => exact hb pins s1 σ H1 Q I1 q1
  | false => exact ⟨.bl false, H1, I1, rfl, q1⟩
theorem pe_or (ha : PE X a ta) (hb : PE X (.BoolOp .Or (b :: rest) pos) tb) : PE X (.BoolOp .Or (a :: b :: rest) pos) (tOrV ta tb) := by
  intro pins s σ H Q I h
  refine BoolOp_or (thn (ha pins s σ H _ I h) fun v s1 ⟨x, H1, I1, r1, q1⟩ => ?_)
  obtain ⟨c, rfl, q1⟩ := q1
  cases r1
  refine wpAny_truthy_bool ?_
  cases c with
  | false => exact hb pins s1 σ H1 Q I1 q1
  | true => exact ⟨.bl true, H1, I1, rfl, q1⟩
theorem pe_not (ha : PE X a ta) : PE X (.UnaryOp .Not a pos) (tNotV ta) := by
  intro pins s σ H Q I h
  refine UnaryOp_ (thn (ha pins s σ H _ I h) fun v s1 ⟨x, H1, I1, r1, q1⟩ => ?_)
  obtain ⟨c, rfl, q1⟩ := q1
  cases r1
  exact not_of (wpAny_truthy_bool ⟨.bl (!c), H1, I1, rfl, q1⟩)
def tIf (t : TT) (ta tb : TE) : TE := fun σ H Q => t σ H fun c H1 => if c = true then ta σ H1 Q else tb σ H1 Q
theorem pe_ifExp {c : Expr} (hc : PT X c tA) (ha : PE X a ta) (hb : PE X b tb) : PE X (.IfExp c a b pos) (tIf tA ta tb) := by
  intro pins s σ H Q I h
  refine wpAny_IfExp (thn (hc pins s σ H _ I h) fun d s1 ⟨H1, I1, q1⟩ => ?_)
  cases d with
  | true => exact ha pins s1 σ H1 Q I1 q1
  | false => exact hb pins s1 σ H1 Q I1 q1
end
end L2
namespace L2
open PySem PySem.Spec PyProof.Rows
def SqL (K : PySem.W.Frag) (H : Hp) (a : Addr) (xs : List V) : Prop :=
  Rd H a (.lst xs) ∨
    ∃ (o : Obj) (its : Array Value) (n : Nat), K.lookup a = some o ∧ o.cls = .type "list" ∧ o.dict = none ∧ o.data = .seq its n ∧ its.size ≤ sizeLine ∧ Vals xs its.toList
def SqT (K : PySem.W.Frag) (H : Hp) (a : Addr) (xs : List V) : Prop :=
  Rd H a (.tup xs) ∨
    ∃ (o : Obj) (its : Array Value) (n : Nat), K.lookup a = some o ∧ o.cls = .type "tuple" ∧ o.data = .seq its n ∧ its.size ≤ sizeLine ∧ Vals xs its.toList
def absV : Value → Option V
  | .none => some .non
  | .bool b => some (.bl b)
  | .int i _ => some (.int i)
  | .str x _ => some (.str x)
  | .bytes b _ => some (.byt b)
  | .float b _ => some (.flt b)
  | .ref a => some (.ref a)
  | .type n => some (.ty n)
  | _ => none
theorem RelV.abs {x : V} {u : Value} (r : RelV x u) : absV u = some x := by
  cases x with
  | non => cases r; rfl
  | bl _ => cases r; rfl
  | int _ => obtain ⟨t, rfl⟩ := r; rfl
  | str _ => obtain ⟨t, rfl⟩ := r; rfl
  | byt _ => obtain ⟨t, rfl⟩ := r; rfl
  | flt _ => obtain ⟨t, rfl⟩ := r; rfl
  | ref _ => cases r; rfl
  | ty _ => cases r; rfl
theorem RelV.inj {x y : V} {u : Value} (r : RelV x u) (q : RelV y u) : x = y := Option.some.inj (r.abs.symm.trans q.abs)
theorem Vals.inj : ∀ {xs ys : List V} {us : List Value}, Vals xs us → Vals ys us → xs = ys
  | _, _, _, .nil, .nil => rfl
  | _, _, _, .cons r t, .cons r' t' => by rw [r.inj r', Vals.inj t t']
section
variable {X : Cx} {pins : List (Addr × Obj)} {σ : St} {H : Hp} {s : Shared} {a : Addr} {xs ys : List V}
theorem SqL.of {K : PySem.W.Frag} (h : H a = some (.lst xs)) : SqL K H a xs := .inl (.inl h)
theorem SqT.of {K : PySem.W.Frag} (h : H a = some (.tup xs)) : SqT K H a xs := .inl (.inl h)
theorem Inv.list (I : Inv X pins σ H s) (h : SqL X.K H a xs) : ∃ its : List Value, Vals xs its ∧ PlainL s.heap a its.toArray ∧ xs.length ≤ sizeLine := by
  rcases h with h | ⟨o, its, n, hk, hc, hd, hs, hz, r⟩
  · obtain ⟨z, its, n, r, e⟩ := h.ok I.hok
    exact ⟨its, r, ⟨_, n, e, rfl, rfl, rfl⟩, z⟩
  · refine ⟨its.toList, r, ⟨o, n, I.kIn a o hk, hc, hd, by simpa using hs⟩, ?_⟩
    have e := r.length
    simp only [Array.length_toList] at e
    omega
theorem Inv.tuple (I : Inv X pins σ H s) (h : SqT X.K H a xs) : ∃ its : List Value, Vals xs its ∧ IsTup s.heap a its.toArray ∧ xs.length ≤ sizeLine := by
  rcases h with h | ⟨o, its, n, hk, hc, hs, hz, r⟩
  · obtain ⟨z, its, r, p⟩ := h.ok I.hok
    exact ⟨its, r, p, z⟩
  · refine ⟨its.toList, r, ⟨o, I.kIn a o hk, hc, n, by simpa using hs⟩, ?_⟩
    have e := r.length
    simp only [Array.length_toList] at e
    omega
theorem Inv.list_inj (I : Inv X pins σ H s) (h : SqL X.K H a xs) (h' : SqL X.K H a ys) : xs = ys := by
  obtain ⟨its, r, ⟨o, n, e, _, _, d⟩, _⟩ := I.list h
  obtain ⟨its', r', ⟨o', n', e', _, _, d'⟩, _⟩ := I.list h'
  rw [e] at e'; cases e'
  rw [d] at d'
  injection d' with d1 _
  have : its = its' := by simpa using congrArg Array.toList d1
  subst this
  exact r.inj r'
theorem Inv.tuple_inj (I : Inv X pins σ H s) (h : SqT X.K H a xs) (h' : SqT X.K H a ys) : xs = ys := by
  obtain ⟨its, r, ⟨o, e, _, n, d⟩, _⟩ := I.tuple h
  obtain ⟨its', r', ⟨o', e', _, n', d'⟩, _⟩ := I.tuple h'
  rw [e] at e'; cases e'
  rw [d] at d'
  injection d' with d1 _
  have : its = its' := by simpa using congrArg Array.toList d1
  subst this
  exact r.inj r'
end
abbrev Cx.wish (X : Cx) (E : Value → Shared → Prop) : Cx := { X with xe := E }
abbrev Cx.nox (X : Cx) : Cx := X.wish fun _ _ => False
theorem Cx.Ok.wish {X : Cx} (ok : X.Ok) (E : Value → Shared → Prop) : (X.wish E).Ok :=
  ⟨ok.mod, ok.kind, ok.glob, ok.blt, ok.above, ok.inj, ok.has, ok.cab, ok.hd, ok.frames, ok.stk, ok.exf, ok.bs, ok.bsz, ok.noex, ok.exfs, ok.funs, ok.frf⟩
theorem Cx.Ok.unwish {X : Cx} {E : Value → Shared → Prop} (ok : (X.wish E).Ok) : X.Ok :=
  ⟨ok.mod, ok.kind, ok.glob, ok.blt, ok.above, ok.inj, ok.has, ok.cab, ok.hd, ok.frames, ok.stk, ok.exf, ok.bs, ok.bsz, ok.noex, ok.exfs, ok.funs, ok.frf⟩
section
variable {X : Cx} {pins : List (Addr × Obj)} {σ : St} {H : Hp} {s : Shared} {E : Value → Shared → Prop}
theorem Inv.wish (I : Inv X pins σ H s) (E : Value → Shared → Prop) : Inv (X.wish E) pins σ H s := ⟨I.ok.wish E, I.os, I.bare, I.base, I.loc, I.cell, I.free, I.freeC, I.pin, I.hok, I.len⟩
theorem Inv.unwish (I : Inv (X.wish E) pins σ H s) : Inv X pins σ H s := ⟨I.ok.unwish, I.os, I.bare, I.base, I.loc, I.cell, I.free, I.freeC, I.pin, I.hok, I.len⟩
theorem SP.unwish {D : Ends} {f : Flow} {s' : Shared} (h : SP (X.wish E) pins D f s') : SP X pins D f s' := by
  cases f with
  | next => obtain ⟨σ', H', I, q⟩ := h; exact ⟨σ', H', I.unwish, q⟩
  | brk => obtain ⟨σ', H', I, q⟩ := h; exact ⟨σ', H', I.unwish, q⟩
  | cont => obtain ⟨σ', H', I, q⟩ := h; exact ⟨σ', H', I.unwish, q⟩
  | ret u => obtain ⟨v, σ', H', I, r, q⟩ := h; exact ⟨v, σ', H', I.unwish, r, q⟩
theorem PE.nox {e : Expr} {t : TE} (h : PE X.nox e t) : PE X e t := fun pins s σ H Q I hw =>
  wpAny_mono (h pins s σ H Q (I.wish _) hw) (fun _ _ ⟨v, H', I', r, q⟩ => ⟨v, H', I'.unwish, r, q⟩) fun _ _ z => False.elim z
theorem PT.nox {e : Expr} {t : TT} (h : PT X.nox e t) : PT X e t := fun pins s σ H Q I hw =>
  wpAny_mono (h pins s σ H Q (I.wish _) hw) (fun _ _ ⟨H', I', q⟩ => ⟨H', I'.unwish, q⟩) fun _ _ z => False.elim z
theorem PSs.nox {st : List Stmt} {t : TS} (h : PSs X.nox st t) : PSs X st t := fun pins s σ H D I hw =>
  wpAny_mono (h pins s σ H D (I.wish _) hw) (fun _ _ q => q.unwish) fun _ _ z => False.elim z
end
section
variable {X : Cx} {st : Stmt} {rest : List Stmt} {t u : TS} {e : Expr} {te : TE} {pos : Pos}
def tNext : TS := fun D σ H => D.nx σ H
def tSeq (t u : TS) : TS := fun D σ H => t { D with nx := u D } σ H
theorem pss_nil : PSs X [] tNext := fun _ _ σ H _ I h => wpAny_execs_nil ⟨σ, H, I, h⟩
theorem pss_cons (h1 : PS X st t) (h2 : PSs X rest u) : PSs X (st :: rest) (tSeq t u) := by
  intro pins s σ H D I h
  refine wpAny_execs_cons (thn (h1 pins s σ H { D with nx := u D } I h) fun f s1 q => ?_)
  cases f with
  | next =>
    obtain ⟨σ', H', I', q⟩ := q
    exact h2 pins s1 σ' H' D I' q
  | ret v => exact q
  | brk => exact q
  | cont => exact q
theorem pss_one (h1 : PS X st t) : PSs X [st] t := by
  intro pins s σ H D I h
  refine wpAny_execs_cons (thn (h1 pins s σ H D I h) fun f s1 q => ?_)
  cases f with
  | next => exact wpAny_execs_nil q
  | ret v => exact q
  | brk => exact q
  | cont => exact q
theorem Inv.quiet {pins : List (Addr × Obj)} {σ : St} {H : Hp} {s : Shared} (I : Inv X pins σ H s) : interactive X.env = false := by simp [interactive, I.ok.kind]
def tDrop (te : TE) : TS := fun D σ H => te σ H fun _ H1 => D.nx σ H1
theorem ps_expr (he : PE X e te) (hs : swapsWith e none pos.line X.env = pure false := by rfl) : PS X (.Expr e pos) (tDrop te) := by
  intro pins s σ H D I h
  exact wpAny_Expr_any (thn (he pins s σ H _ I h) fun v s1 ⟨x, H1, I1, r1, q1⟩ => ⟨σ, H1, I1, q1⟩) I.quiet hs
def tRet (te : TE) : TS := fun D σ H => te σ H D.rt
theorem ps_ret (he : PE X e te) : PS X (.Return (some e) pos) (tRet te) := by
  intro pins s σ H D I h
  exact wpAny_Return_some (thn (he pins s σ H _ I h) fun v s1 ⟨x, H1, I1, r1, q1⟩ => ⟨x, σ, H1, I1, r1, q1⟩)
def tRetN : TS := fun D _ H => D.rt .non H
theorem ps_retN : PS X (.Return none pos) tRetN := fun _ _ σ H _ I h => wpAny_Return_none ⟨.non, σ, H, I, rfl, h⟩
def tIfS (c : TT) (t u : TS) : TS := fun D σ H => c σ H fun b H1 => if b = true then t D σ H1 else u D σ H1
theorem ps_if {c : Expr} {a b : List Stmt} {tc : TT} (hc : PT X c tc) (ha : PSs X a t) (hb : PSs X b u) : PS X (.If c a b pos) (tIfS tc t u) := by
  intro pins s σ H D I h
  refine wpAny_If (thn (hc pins s σ H _ I h) fun d s1 ⟨H1, I1, q1⟩ => ?_)
  cases d with
  | true => exact ha pins s1 σ H1 D I1 q1
  | false => exact hb pins s1 σ H1 D I1 q1
end
abbrev TG := V → St → Hp → (St → Hp → Prop) → Prop
def PG (X : Cx) (target : Expr) (t : TG) : Prop :=
  ∀ (pins : List (Addr × Obj)) (s : Shared) (σ : St) (H : Hp) (v : V) (u : Value) (Q : St → Hp → Prop), Inv X pins σ H s → RelV v u → t v σ H Q →
    wpAny (model X.prog X.w) X.A (assign target X.env u) (fun _ s' => ∃ σ' H', Inv X pins σ' H' s' ∧ Q σ' H') X.xe s
abbrev TSet := V → V → V → Hp → (Hp → Prop) → Prop
def PSet (X : Cx) (t : TSet) : Prop :=
  ∀ (pins : List (Addr × Obj)) (s : Shared) (σ : St) (H : Hp) (o i v : V) (ov iv u : Value) (Q : Hp → Prop), Inv X pins σ H s → RelV o ov → RelV i iv → RelV v u → t o i v H Q →
    wpAny (model X.prog X.w) X.A (setItem ov iv u) (fun _ s' => ∃ H', Inv X pins σ H' s' ∧ Q H') X.xe s
abbrev TIp := V → V → Hp → VK → Prop
def PIp (X : Cx) (op : Operator) (t : TIp) : Prop :=
  ∀ (pins : List (Addr × Obj)) (s : Shared) (σ : St) (H : Hp) (x y : V) (v u : Value) (Q : VK), Inv X pins σ H s → RelV x v → RelV y u → t x y H Q →
    wpAny (model X.prog X.w) X.A (inplaceOp op v u) (EP X pins σ Q) X.xe s
section
variable {X : Cx} {pos : Pos}
def gName (i : Nat) : TG := fun v σ H Q => Q (σ.set i (some v)) H
theorem pg_name {i : Nat} {x : Str} (hN : X.N.Nodup) (hi : X.N[i]? = some x) (hx : Loc X.env.scope x) (hf : X.fn x = true ∨ X.env.scope.names.lookup x = some .local := by first | exact .inl rfl | exact .inr rfl | assumption) : PG X (.Name x pos) (gName i) := by
  intro pins s σ H v u Q I r h
  exact wpAny_assign_Name (store_ok I hN hi hx r (fun s' I' => ⟨_, H, I', h⟩) hf)
def gSub (to ti : TE) (t : TSet) : TG := fun v σ H Q => to σ H fun o H1 => ti σ H1 fun i H2 => t o i v H2 fun H3 => Q σ H3
theorem pg_sub {o i : Expr} {to ti : TE} {t : TSet} (ho : PE X o to) (hi : PE X i ti) (hs : PSet X t)
    (ha : ∀ v, assign (.Subscript o i pos) X.env v = (do
      let ov ← holding [v] (eval o X.env)
      let iv ← holding [v, ov] (eval i X.env)
      standAt pos
      holding [v, ov, iv] (setItem ov iv v)
      release [v, ov, iv] []) := by intro _; rfl) : PG X (.Subscript o i pos) (gSub to ti t) := by
  intro pins s σ H v u Q I r h
  rw [ha]
  refine wpAny_bind (wpAny_holding (thn (ho pins s σ H _ I h) fun ov s1 ⟨x, H1, I1, r1, q1⟩ => ?_))
  refine wpAny_bind (wpAny_holding (thn (hi pins s1 σ H1 _ I1 q1) fun iv s2 ⟨y, H2, I2, r2, q2⟩ => ?_))
  refine wpAny_bind (wpAny_standAt (wpAny_bind (wpAny_holding (thn (hs pins s2 σ H2 x y v ov iv u _ I2 r1 r2 r q2) fun _ s3 ⟨H3, I3, q3⟩ => ?_))))
  exact wpAny_release ⟨σ, H3, I3, q3⟩
def tAsg (te : TE) (g : TG) : TS := fun D σ H => te σ H fun x H1 => g x σ H1 D.nx
theorem ps_asg {tg e : Expr} {te : TE} {g : TG} (he : PE X e te) (hg : PG X tg g) (hs : swapsWithSole [tg] e pos.line X.env = pure false := by rfl) (hw : swappedStores [tg] e X.env = pure none := by rfl)
    (h1 : (assignEach [tg] X.env).map (·.2) = [assign tg X.env] := by rfl) : PS X (.Assign [tg] e pos) (tAsg te g) := by
  intro pins s σ H D I h
  refine wpAny_Assign_stores (thn (he pins s σ H _ I h) fun v s1 ⟨x, H1, I1, r1, q1⟩ => ?_) hs hw
  rw [h1]
  exact thn (hg pins s1 σ H1 x v _ I1 r1 q1) fun _ s2 q => q
theorem ps_set {i : Nat} {x : Str} {e : Expr} {te : TE} {pos' : Pos} (hN : X.N.Nodup) (hi : X.N[i]? = some x) (hx : Loc X.env.scope x) (he : PE X e te) (hs : swapsWith e (some (.Name x pos')) pos.line X.env = pure false := by rfl) (hf : X.fn x = true ∨ X.env.scope.names.lookup x = some .local := by first | exact .inl rfl | exact .inr rfl | assumption) :
    PS X (.Assign [.Name x pos'] e pos) (tAsg te (gName i)) := by
  intro pins s σ H D I h
  refine wpAny_Assign_Name (thn (he pins s σ H _ I h) fun v s1 ⟨y, H1, I1, r1, q1⟩ => ?_) hs
  exact store_ok I1 hN hi hx r1 (fun s2 I2 => ⟨_, H1, I2, q1⟩) hf
def tAug (i : Nat) (te : TE) (ti : TIp) : TS := fun D σ H => ∃ x, σ[i]? = some (some x) ∧ te σ H fun y H1 => ti x y H1 fun z H2 => D.nx (σ.set i (some z)) H2
theorem ps_aug {i : Nat} {x : Str} {e : Expr} {te : TE} {op : Operator} {ti : TIp} {pos' : Pos} (hN : X.N.Nodup) (hi : X.N[i]? = some x) (hx : Loc X.env.scope x) (he : PE X e te) (ho : PIp X op ti) (hf : X.fn x = true ∨ X.env.scope.names.lookup x = some .local := by first | exact .inl rfl | exact .inr rfl | assumption) :
    PS X (.AugAssign (.Name x pos') op e pos) (tAug i te ti) := by
  intro pins s σ H D I h
  obtain ⟨v, e1, h⟩ := h
  obtain ⟨m, hn, hl⟩ := I.loc
  have vis : Vis X.env.scope x := by rcases hx with k | k; exact .inl k; exact .inr (.inl k)
  obtain ⟨u, r, l⟩ := hl i x v hi e1 vis
  refine wpAny_AugAssign_Name ?_
  have go : wpAny (model X.prog X.w) X.A (eval e X.env) (fun w s₂ => wpAny (model X.prog X.w) X.A (inplaceOp op u w) (fun r s₃ => wpAny (model X.prog X.w) X.A (storeName X.env x r) (fun _ => SP X pins D .next) X.xe s₃) X.xe s₂) X.xe s := by
    refine thn (he pins s σ H _ I h) fun w s1 ⟨y, H1, I1, r1, q1⟩ => ?_
    refine thn (ho pins s1 σ H1 v y u w _ I1 r r1 q1) fun z s2 ⟨zv, H2, I2, r2, q2⟩ => ?_
    exact store_ok I2 hN hi hx r2 (fun s3 I3 => ⟨_, H2, I3, q2⟩) hf
  rcases l with ⟨hk, hm⟩ | ⟨hk, c, hc, hcell⟩
  · exact wpAny_loadName_local I.ok.kind hk hn hm go
  · rcases hk with hk | hk
    · exact wpAny_loadName_cell I.ok.kind hk hc hcell go
    · rcases hx with k | k
      · have : X.env.scope.names.lookup x = some .free := hk
        rw [k] at this; cases this
      · have : X.env.scope.names.lookup x = some .free := hk
        rw [k] at this; cases this
def tAugS (to ti te : TE) (tget : V → V → Hp → VK → Prop) (tip : TIp) (tset : TSet) : TS := fun D σ H => to σ H fun o H1 => ti σ H1 fun i H2 => tget o i H2 fun x H3 => te σ H3 fun y H4 => tip x y H4 fun z H5 => tset o i z H5 fun H6 => D.nx σ H6
def PGet (X : Cx) (t : V → V → Hp → VK → Prop) : Prop :=
  ∀ (pins : List (Addr × Obj)) (s : Shared) (σ : St) (H : Hp) (o i : V) (ov iv : Value) (Q : VK), Inv X pins σ H s → RelV o ov → RelV i iv → t o i H Q →
    wpAny (model X.prog X.w) X.A (getItem ov iv) (EP X pins σ Q) X.xe s
theorem ps_augS {o i e : Expr} {to ti te : TE} {tget : V → V → Hp → VK → Prop} {tip : TIp} {tset : TSet} {op : Operator} {tpos : Pos} (ho : PE X o to) (hi : PE X i ti) (hg : PGet X tget) (he : PE X e te) (hp : PIp X op tip) (hs : PSet X tset)
    (ha : ∀ ov iv new, augStore i ov iv new = (do holding [new, ov, iv] (setItem ov iv new); release [new, ov, iv] []; pure .next) := by intros; rfl) : PS X (.AugAssign (.Subscript o i tpos) op e pos) (tAugS to ti te tget tip tset) := by
  intro pins s σ H D I h
  refine wpAny_AugAssign_SubscriptAny (thn (ho pins s σ H _ I h) fun ov s1 ⟨x1, H1, I1, r1, q1⟩ => ?_) ha
  refine thn (hi pins s1 σ H1 _ I1 q1) fun iv s2 ⟨x2, H2, I2, r2, q2⟩ => ?_
  refine thn (hg pins s2 σ H2 x1 x2 ov iv _ I2 r1 r2 q2) fun old s3 ⟨x3, H3, I3, r3, q3⟩ => ?_
  refine thn (he pins s3 σ H3 _ I3 q3) fun v s4 ⟨x4, H4, I4, r4, q4⟩ => ?_
  refine thn (hp pins s4 σ H4 x3 x4 old v _ I4 r3 r4 q4) fun new s5 ⟨x5, H5, I5, r5, q5⟩ => ?_
  exact thn (hs pins s5 σ H5 x1 x2 x5 ov iv new _ I5 r1 r2 r5 q5) fun _ s6 ⟨H6, I6, q6⟩ => ⟨σ, H6, I6, q6⟩
def ipI (f : Int → Int → Int) : TIp := fun x y H Q => ∃ i j, x = .int i ∧ y = .int j ∧ Q (.int (f i j)) H
theorem ip_add : PIp X .Add (ipI fun i j => i + j) := by
  intro pins s σ H x y v u Q I r1 r2 h
  obtain ⟨i, j, e1, e2, q⟩ := h
  subst e1; subst e2
  obtain ⟨t, rfl⟩ := r1
  obtain ⟨t', rfl⟩ := r2
  exact iadd_int ⟨.int _, H, I.tok _, ⟨_, rfl⟩, q⟩
end
section
variable {X : Cx} {pos : Pos}
def tWhile (c : TT) (tb : TS) : TS := fun D σ H => ∃ W : Nat → St → Hp → Prop, (∃ m, W m σ H) ∧ ∀ m σ H, W m σ H →
  c σ H fun b H1 => if b = true then ∃ N : St → Hp → Prop, (∀ σ' H', N σ' H' → ∃ m', m' < m ∧ W m' σ' H') ∧ tb { D with nx := N, ct := N, bk := D.nx } σ H1 else D.nx σ H1
theorem ps_while {c : Expr} {body : List Stmt} {tc : TT} {tb : TS} (hp : PassesOwn (model X.prog X.w) X.A X.env X.xe) (hc : PT X c tc) (hb : PSs X body tb) : PS X (.While c body [] pos) (tWhile tc tb) := by
  intro pins s σ H D I h
  obtain ⟨W, ⟨m0, w0⟩, turn⟩ := h
  refine wpAny_While (codeAny_whileLoop (fun n s' => ∃ σ' H', Inv X pins σ' H' s' ∧ W n σ' H') ?_ m0 ⟨σ, H, I, w0⟩)
  rintro n s1 ⟨σ1, H1, I1, w1⟩
  refine wpAny_passesOwn hp (thn (hc pins s1 σ1 H1 _ I1 (turn n σ1 H1 w1)) fun b s2 ⟨H2, I2, q2⟩ => ?_)
  cases b with
  | true =>
    obtain ⟨N, hN, q2⟩ := q2
    rw [if_pos rfl]
    refine wpAny_passesOwn hp (thn (hb pins s2 σ1 H2 _ I2 q2) fun f s3 q3 => ?_)
    cases f with
    | next =>
      obtain ⟨σ3, H3, I3, n3⟩ := q3
      obtain ⟨m', hm, w3⟩ := hN σ3 H3 n3
      exact ⟨m', hm, σ3, H3, I3, w3⟩
    | cont =>
      obtain ⟨σ3, H3, I3, n3⟩ := q3
      obtain ⟨m', hm, w3⟩ := hN σ3 H3 n3
      exact ⟨m', hm, σ3, H3, I3, w3⟩
    | brk => exact q3
    | ret v => exact q3
  | false =>
    rw [if_neg Bool.false_ne_true]
    exact wpAny_execs_nil ⟨σ1, H2, I2, q2⟩
end
structure It where
  go : Nat → Hp → Prop
  yld : Nat → Hp → V → Hp → Prop
  stop : Nat → Hp → Prop
def FpOk (X : Cx) (pins : List (Addr × Obj)) (H : Hp) (b : Addr) : Prop :=
  H b = none ∧ b ≠ X.env.locals ∧ b ∉ X.fs ∧ (b ∈ X.ex ∨ X.s_0.heap.objs.size ≤ b) ∧ (∀ x c, X.env.cells.lookup x = some c → c ≠ b) ∧ ∀ p ∈ X.pn ++ pins, p.1 ≠ b
theorem Inv.fpOk {X : Cx} {pins : List (Addr × Obj)} {σ : St} {H H' : Hp} {s : Shared} {b : Addr} (I : Inv X pins σ H s) (hb : s.heap.objs.size ≤ b) (hn : H' b = none) : FpOk X pins H' b := by
  refine ⟨hn, Nat.ne_of_gt (Nat.lt_of_lt_of_le I.lt hb), I.nofs hb, .inr (Nat.le_trans I.sz hb), fun x c e z => ?_, fun p hp z => ?_⟩
  · obtain ⟨v, q⟩ := I.cell x c e
    exact absurd (Nat.lt_of_lt_of_le q.lt (by rw [z]; exact hb)) (Nat.lt_irrefl _)
  · exact absurd (Nat.lt_of_lt_of_le (Heap.lt_size (I.pin p hp).1) (by rw [z]; exact hb)) (Nat.lt_irrefl _)
structure Turn (P : Program) (w : World) (K : PySem.W.Frag) (tg : Expr) (J : It) (fp : List Addr) (it : Addr) (tn : Nat → Heap → Prop) : Prop where
  mem : it ∈ fp
  obj : ∀ i h, tn i h → ∀ b ∈ fp, ∃ o, h.get? b = some o ∧ ∀ v, o.data ≠ .cell v
  keep : ∀ i h h', tn i h → (∀ b ∈ fp, ∀ o, h.get? b = some o → h'.get? b = some o) → tn i h'
  item : ∀ (X : Cx), X.prog = P → X.w = w → X.K = K → X.calm = true → ∀ (i : Nat) (pins : List (Addr × Obj)) (s : Shared) (σ : St) (H : Hp) (E : Value → Shared → Prop), Inv X pins σ H s → (∀ b ∈ fp, FpOk X pins H b) → tn i s.heap → J.go i H →
    wpAny (model P w) X.A (pyNext (.ref it)) (fun r s1 => ∃ u, r = some u ∧
      wpAny (model P w) X.A (letOwnedTupleGo tg (.ref it) u) (fun _ s2 => ∃ x H', Inv X pins σ H' s2 ∧ RelV x u ∧ J.yld i H x H' ∧ tn (i + 1) s2.heap ∧ ∀ b ∈ fp, H' b = none) E s1) E s
  done : ∀ (X : Cx), X.prog = P → X.w = w → X.K = K → X.calm = true → ∀ (i : Nat) (pins : List (Addr × Obj)) (s : Shared) (σ : St) (H : Hp) (E : Value → Shared → Prop), Inv X pins σ H s → (∀ b ∈ fp, FpOk X pins H b) → tn i s.heap → J.stop i H →
    wpAny (model P w) X.A (pyNext (.ref it)) (fun r s1 => r = none ∧ Inv X pins σ H s1) E s
  self : ∀ (A : Around) (i : Nat) (s : Shared) (Q : Value → Shared → Prop) (E : Value → Shared → Prop), tn i s.heap → Q (.ref it) s → wpAny (model P w) A (pyIter (.ref it)) Q E s
abbrev TI := St → Hp → (It → Hp → Prop) → Prop
def PIE (X : Cx) (pins : List (Addr × Obj)) (σ : St) (tg : Expr) (R : It → Hp → Prop) (itv : Value) (s2 : Shared) : Prop :=
  ∃ (it : Addr) (fp : List Addr) (tn : Nat → Heap → Prop) (J : It) (H' : Hp), itv = .ref it ∧ Inv X pins σ H' s2 ∧ Turn X.prog X.w X.K tg J fp it tn ∧ tn 0 s2.heap ∧ (∀ b ∈ fp, FpOk X pins H' b) ∧ R J H'
def PI (X : Cx) (tg iter : Expr) (wi : TI) : Prop :=
  ∀ (pins : List (Addr × Obj)) (s : Shared) (σ : St) (H : Hp) (R : It → Hp → Prop), Inv X pins σ H s → wi σ H R →
    wpAny (model X.prog X.w) X.A (eval iter X.env) (fun v s1 => wpAny (model X.prog X.w) X.A (pyIter v) (PIE X pins σ tg R) X.xe s1) X.xe s
theorem go_of {M : Model} {A : Around} {E : Value → Shared → Prop} {s : Shared} {tg : Expr} {it : Addr} {u : Value} {o : Obj} {n : String} {vs : Array Value} {Q : Unit → Shared → Prop} (ho : s.heap.get? it = some o) (hc : o.cls = .type n) (hd : o.data = .fields vs)
    (hn : ["enumerate", "zip", "dict_itemiterator", "dict_reverseitemiterator", "odict_iterator", "itertools.zip_longest", "itertools.pairwise"].contains n = false) (hQ : Q () s) : wpAny M A (letOwnedTupleGo tg (.ref it) u) Q E s := by
  unfold letOwnedTupleGo
  cases tg <;> first
    | exact wpAny_pure hQ
    | (cases u <;> first
        | exact wpAny_pure hQ
        | (refine wpAny_bind (wpAny_load ho ?_)
           rw [hc, hd]
           show wpAny M A (if (["enumerate", "zip", "dict_itemiterator", "dict_reverseitemiterator", "odict_iterator", "itertools.zip_longest", "itertools.pairwise"].contains n && vs[0]? == some (rawInt _)) = true then _ else _) Q E s
           rw [if_neg (by intro h; rw [hn, Bool.false_and] at h; cases h)]
           exact wpAny_pure hQ))
def Itl (K : PySem.W.Frag) (a : Addr) : It :=
  ⟨fun i H => ∃ xs x, SqL K H a xs ∧ xs[i]? = some x, fun i H x H' => H' = H ∧ ∀ xs, SqL K H a xs → xs[i]? = some x, fun i H => ∃ xs, SqL K H a xs ∧ xs.length ≤ i⟩
def Itt (K : PySem.W.Frag) (a : Addr) : It :=
  ⟨fun i H => ∃ xs x, SqT K H a xs ∧ xs[i]? = some x, fun i H x H' => H' = H ∧ ∀ xs, SqT K H a xs → xs[i]? = some x, fun i H => ∃ xs, SqT K H a xs ∧ xs.length ≤ i⟩
def Itr (lo : Int) (n : Nat) : It := ⟨fun i _ => i < n, fun i H x H' => H' = H ∧ x = .int (lo + i), fun i _ => n ≤ i⟩
theorem turn_list {P : Program} {w : World} {K : PySem.W.Frag} {tg : Expr} (a it : Addr) : Turn P w K tg (Itl K a) [it] it (fun i h => h.IsListIter it a i) where
  mem := by simp
  obj := fun i h st b hb => by
    have e : b = it := by simpa using hb
    subst e
    obtain ⟨o, e, c, d⟩ := st
    exact ⟨o, e, fun v z => by rw [d] at z; cases z⟩
  keep := fun i h h' st k => st.at fun o e => k it (by simp) o e
  item := by
    intro X hP hw hK hc i pins s σ H E I hf st hg
    subst hP hw hK
    obtain ⟨xs, x, hq, hx⟩ := hg
    obtain ⟨its, rv, p, hz⟩ := I.list hq
    obtain ⟨u, hu, ru⟩ := rv.get hx
    obtain ⟨f0, f1, f2, f3, f4, f5⟩ := hf it (by simp)
    refine wpAny_pyNext_list_item st p.isList (x := u) (by simpa using hu) fun h' st' sb => ?_
    have I1 : Inv X pins σ H { s with heap := h' } := I.turned (t' := s.toks) (fun b o hb e => (sb.2 b hb).trans e) f0 f1 f3 f4 f5
    obtain ⟨o, e, c, d⟩ := id st'
    exact ⟨u, rfl, go_of (s := { s with heap := h' }) e c d (by decide) ⟨x, H, I1, ru, ⟨rfl, fun ys hy => by rw [I.list_inj hy hq]; exact hx⟩, st', fun b hb => (hf b hb).1⟩⟩
  done := by
    intro X hP hw hK hc i pins s σ H E I hf st hg
    subst hP hw hK
    obtain ⟨xs, hq, hx⟩ := hg
    obtain ⟨its, rv, p, hz⟩ := I.list hq
    obtain ⟨f0, f1, f2, f3, f4, f5⟩ := hf it (by simp)
    have hl := rv.length
    exact wpAny_pyNext_list_end (I.ok.hd hc) st p.isList (by simp; omega) fun h' eb => ⟨rfl, I.turned (t' := s.toks) (fun b o hb e => eb b o hb e) f0 f1 f3 f4 f5⟩
  self := fun _ _ _ _ _ st h => wpAny_pyIter_listiter st h
theorem turn_tuple {P : Program} {w : World} {K : PySem.W.Frag} {tg : Expr} (a it : Addr) : Turn P w K tg (Itt K a) [it] it (fun i h => h.IsTupleIter it a i) where
  mem := by simp
  obj := fun i h st b hb => by
    have e : b = it := by simpa using hb
    subst e
    obtain ⟨o, e, c, d⟩ := st
    exact ⟨o, e, fun v z => by rw [d] at z; cases z⟩
  keep := fun i h h' st k => st.at fun o e => k it (by simp) o e
  item := by
    intro X hP hw hK hc i pins s σ H E I hf st hg
    subst hP hw hK
    obtain ⟨xs, x, hq, hx⟩ := hg
    obtain ⟨its, rv, p, hz⟩ := I.tuple hq
    obtain ⟨u, hu, ru⟩ := rv.get hx
    obtain ⟨f0, f1, f2, f3, f4, f5⟩ := hf it (by simp)
    refine wpAny_pyNext_tuple_item st (show s.heap.IsTuple a its.toArray from p) (x := u) (by simpa using hu) fun h' st' sb => ?_
    have I1 : Inv X pins σ H { s with heap := h' } := I.turned (t' := s.toks) (fun b o hb e => (sb.2 b hb).trans e) f0 f1 f3 f4 f5
    obtain ⟨o, e, c, d⟩ := id st'
    exact ⟨u, rfl, go_of (s := { s with heap := h' }) e c d (by decide) ⟨x, H, I1, ru, ⟨rfl, fun ys hy => by rw [I.tuple_inj hy hq]; exact hx⟩, st', fun b hb => (hf b hb).1⟩⟩
  done := by
    intro X hP hw hK hc i pins s σ H E I hf st hg
    subst hP hw hK
    obtain ⟨xs, hq, hx⟩ := hg
    obtain ⟨its, rv, p, hz⟩ := I.tuple hq
    obtain ⟨f0, f1, f2, f3, f4, f5⟩ := hf it (by simp)
    have hl := rv.length
    exact wpAny_pyNext_tuple_end (I.ok.hd hc) st (show s.heap.IsTuple a its.toArray from p) (by simp; omega) fun h' eb => ⟨rfl, I.turned (t' := s.toks) (fun b o hb e => eb b o hb e) f0 f1 f3 f4 f5⟩
  self := fun _ _ _ _ _ st h => wpAny_pyIter_tupleiter st h
theorem turn_range {P : Program} {w : World} {K : PySem.W.Frag} {tg : Expr} (it : Addr) (lo : Int) (n : Nat) : Turn P w K tg (Itr lo n) [it] it (fun i h => IsRangeIter h it (lo + (i : Nat) * 1) ((n : Int) - (i : Nat)) 1) where
  mem := by simp
  obj := fun i h st b hb => by
    have e : b = it := by simpa using hb
    subst e
    exact ⟨_, st, fun v z => by
      have z' : Data.fields _ = Data.cell v := z
      cases z'⟩
  keep := fun i h h' st k => k it (by simp) _ st
  item := by
    intro X hP hw hK hc i pins s σ H E I hf st hg
    subst hP hw hK
    obtain ⟨f0, f1, f2, f3, f4, f5⟩ := hf it (by simp)
    have W := Walks.range (prog := X.prog) (w := X.w) (I.ok.hd hc) it lo 1 n
    refine W.item i s _ _ hg st fun v h' tk hv st' kk => ?_
    obtain ⟨t, rfl⟩ := hv
    have I1 : Inv X pins σ H { s with heap := h', toks := tk } := I.turned (fun b o hb e => kk b o (by simpa using hb) e) f0 f1 f3 f4 f5
    refine ⟨_, rfl, go_of (s := { s with heap := h', toks := tk }) (n := "range_iterator") st' rfl rfl (by decide) ⟨.int (lo + i), H, I1, ⟨t, ?_⟩, ⟨rfl, rfl⟩, st', fun b hb => (hf b hb).1⟩⟩
    rw [Int.mul_one]
  done := by
    intro X hP hw hK hc i pins s σ H E I hf st hg
    subst hP hw hK
    obtain ⟨f0, f1, f2, f3, f4, f5⟩ := hf it (by simp)
    exact wpAny_pyNext_range_end (I.ok.hd hc) st (by have : n ≤ i := hg; omega) fun h' eb => ⟨rfl, I.turned (t' := s.toks) (fun b o hb e => eb b o hb e) f0 f1 f3 f4 f5⟩
  self := fun _ _ _ _ _ st h => wpAny_pyIter_rangeiter st h
end L2
namespace L2
open PySem PySem.Spec PyProof.Rows
section
variable {X : Cx} {tg : Expr}
def iList (K : PySem.W.Frag) (tl : TE) : TI := fun σ H R => tl σ H fun x H1 => ∃ a, x = .ref a ∧ (∃ xs, SqL K H1 a xs) ∧ R (Itl K a) H1
def iTup (K : PySem.W.Frag) (tl : TE) : TI := fun σ H R => tl σ H fun x H1 => ∃ a, x = .ref a ∧ (∃ xs, SqT K H1 a xs) ∧ R (Itt K a) H1
theorem pi_list {l : Expr} {tl : TE} (hl : PE X l tl) : PI X tg l (iList X.K tl) := by
  intro pins s σ H R I h
  refine thn (hl pins s σ H _ I h) fun v s1 ⟨x, H1, I1, r1, q1⟩ => ?_
  obtain ⟨a, e, ⟨xs, hq⟩, q⟩ := q1
  subst e
  cases r1
  obtain ⟨its, rv, p, hz⟩ := I1.list hq
  refine wpAny_pyIter_list p.isList ?_
  refine ⟨s1.heap.objs.size, [s1.heap.objs.size], _, _, H1, rfl, I1.kept (t' := s1.toks) fun b o e => Heap.get?_push_of_some _ e, turn_list a _, ⟨_, Heap.get?_push_size _ rfl, rfl, rfl⟩, fun b hb => ?_, q⟩
  have e : b = s1.heap.objs.size := by simpa using hb
  subst e
  exact I1.fpOk (Nat.le_refl _) (I1.hok.fresh (Nat.le_refl _))
theorem pi_tup {l : Expr} {tl : TE} (hl : PE X l tl) : PI X tg l (iTup X.K tl) := by
  intro pins s σ H R I h
  refine thn (hl pins s σ H _ I h) fun v s1 ⟨x, H1, I1, r1, q1⟩ => ?_
  obtain ⟨a, e, ⟨xs, hq⟩, q⟩ := q1
  subst e
  cases r1
  obtain ⟨its, rv, p, hz⟩ := I1.tuple hq
  refine wpAny_pyIter_tuple (show s1.heap.IsTuple a its.toArray from p) ?_
  refine ⟨s1.heap.objs.size, [s1.heap.objs.size], _, _, H1, rfl, I1.kept (t' := s1.toks) fun b o e => Heap.get?_push_of_some _ e, turn_tuple a _, ⟨_, Heap.get?_push_size _ rfl, rfl, rfl⟩, fun b hb => ?_, q⟩
  have e : b = s1.heap.objs.size := by simpa using hb
  subst e
  exact I1.fpOk (Nat.le_refl _) (I1.hok.fresh (Nat.le_refl _))
theorem range_it {pins : List (Addr × Obj)} {σ : St} {H : Hp} {s : Shared} {R : It → Hp → Prop} {E : Value → Shared → Prop} {lo hi : Int} {t u v : Tok} {tk : Nat} (I : Inv X pins σ H s) (h1 : -(2 ^ 62) ≤ lo) (h2 : lo < 2 ^ 62) (h3 : -(2 ^ 62) ≤ hi) (h4 : hi < 2 ^ 62)
    (q : R (Itr lo (hi - lo).toNat) H) : wpAny (model X.prog X.w) X.A (pyIter (.ref s.heap.objs.size)) (PIE X pins σ tg R) E { s with heap := s.heap.push { cls := .type "range", data := .fields #[.int lo t, .int hi u, .int 1 v] }, toks := tk } := by
  refine wpAny_pyIter_range (IsRange.new ..) (small_one h1 h2 h3 h4) ?_
  have I1 : Inv X pins σ H { s with heap := s.heap.push { cls := .type "range", data := .fields #[.int lo t, .int hi u, .int 1 v] }, toks := tk } := I.kept fun b o e => Heap.get?_push_of_some _ e
  refine ⟨(s.heap.push { cls := .type "range", data := .fields #[.int lo t, .int hi u, .int 1 v] }).objs.size, [(s.heap.push { cls := .type "range", data := .fields #[.int lo t, .int hi u, .int 1 v] }).objs.size], _, _, H, rfl,
    I1.kept (t' := tk) fun b o e => Heap.get?_push_of_some _ e, turn_range _ lo (hi - lo).toNat, ?_, fun b hb => ?_, q⟩
  · have e1 : lo + ((0 : Nat) : Int) * 1 = lo := by simp
    have e2 : (((hi - lo).toNat : Nat) : Int) - ((0 : Nat) : Int) = Builtin.Range.rangeSize lo hi 1 := by rw [rangeSize_one]; split <;> omega
    show IsRangeIter _ _ (lo + ((0 : Nat) : Int) * 1) ((((hi - lo).toNat : Nat) : Int) - ((0 : Nat) : Int)) 1
    rw [e1, e2]
    exact Heap.get?_push_size _ rfl
  · have e : b = (s.heap.push { cls := .type "range", data := .fields #[.int lo t, .int hi u, .int 1 v] }).objs.size := by simpa using hb
    subst e
    exact I1.fpOk (Nat.le_refl _) (I1.hok.fresh (Nat.le_refl _))
def iRng1 (ta : TA) : TI := fun σ H R => ta σ H fun vs H1 => ∃ j : Int, vs = [.int j] ∧ -(2 ^ 62) ≤ j ∧ j < 2 ^ 62 ∧ R (Itr 0 j.toNat) H1
theorem pi_range1 {a : Expr} {ta : TA} {p pos : Pos} (hg : Gl X "range") (hm : X.mg "range" = none) (ha : PA X [a] ta) (hs : starEach [a] X.env = [(false, eval a X.env)] := by rfl) : PI X tg (.Call (.Name "range" p) [a] [] pos) (iRng1 ta) := by
  intro pins s σ H R I h
  refine Call_ (ld_blt I hg hm boot_range (PyProof.Rows.callWith_type1 (thn (ha pos pins s σ H _ I h) fun us s1 ⟨vs, H1, I1, r1, q1⟩ => ?_) hs rfl))
  obtain ⟨j, e, q1, q2, q⟩ := q1
  subst e
  cases r1 with
  | cons r rr =>
    cases rr
    obtain ⟨t, rfl⟩ := r
    exact call_range_1 (range_it I1 (by omega) (by omega) q1 q2 (by simpa using q))
def tFor (wi : TI) (g : TG) (tb : TS) : TS := fun D σ H => wi σ H fun J H1 => ∃ W : Nat → Nat → St → Hp → Prop, (∃ m, W 0 m σ H1) ∧ ∀ i m σ H, W i m σ H →
  (J.stop i H ∧ D.nx σ H) ∨ (J.go i H ∧ ∃ N : St → Hp → Prop, (∀ σ' H', N σ' H' → ∃ m', m' < m ∧ W (i + 1) m' σ' H') ∧ ∀ x H', J.yld i H x H' → g x σ H' fun σ2 H2 => tb { D with nx := N, ct := N, bk := D.nx } σ2 H2)
def pinsAt (fp : List Addr) (h : Heap) : List (Addr × Obj) := fp.filterMap fun b => (h.get? b).map fun o => (b, o)
theorem mem_pinsAt {fp : List Addr} {h : Heap} {b : Addr} {o : Obj} (hb : b ∈ fp) (e : h.get? b = some o) : (b, o) ∈ pinsAt fp h := List.mem_filterMap.mpr ⟨b, hb, by rw [e]; rfl⟩
theorem of_pinsAt {fp : List Addr} {h : Heap} {p : Addr × Obj} (hp : p ∈ pinsAt fp h) : p.1 ∈ fp ∧ h.get? p.1 = some p.2 := by
  obtain ⟨b, hb, e⟩ := List.mem_filterMap.mp hp
  cases q : h.get? b with
  | none => rw [q] at e; cases e
  | some o =>
    rw [q] at e
    have e' : (b, o) = p := Option.some.inj e
    subst e'
    exact ⟨hb, q⟩
theorem Inv.pinned {pins : List (Addr × Obj)} {σ : St} {H : Hp} {s : Shared} {fp : List Addr} (I : Inv X pins σ H s) (hf : ∀ b ∈ fp, FpOk X pins H b) (ho : ∀ b ∈ fp, ∃ o, s.heap.get? b = some o ∧ ∀ v, o.data ≠ .cell v) : Inv X (pins ++ pinsAt fp s.heap) σ H s :=
  I.pins_of fun p hp => (List.mem_append.mp hp).elim (fun z => I.pin p (List.mem_append_right _ z)) fun z => by
    obtain ⟨hb, e⟩ := of_pinsAt z
    obtain ⟨f0, f1, f2, _⟩ := hf p.1 hb
    obtain ⟨o, e', d⟩ := ho p.1 hb
    rw [e] at e'; cases e'
    exact ⟨e, f0, f1, f2, d⟩
theorem Inv.unpinned {pins pl : List (Addr × Obj)} {σ : St} {H : Hp} {s : Shared} (I : Inv X (pins ++ pl) σ H s) : Inv X pins σ H s := I.pins_of fun p hp => I.pin p (List.mem_append_right _ (List.mem_append_left _ hp))
theorem ps_for {iter : Expr} {body : List Stmt} {wi : TI} {g : TG} {tb : TS} {pos : Pos} (hp : PassesOwn (model X.prog X.w) X.A X.env X.xe) (hc : X.calm = true) (hi : PI X tg iter wi) (hg : PG X tg g) (hb : PSs X body tb)
    (hs : ∀ x, foldedSetIterable iter X.env x = pure x := by intro _; rfl) : PS X (.For tg iter body [] pos) (tFor wi g tb) := by
  intro pins s σ H D I h
  refine wpAny_For (thn (hi pins s σ H _ I h) fun v s1 h1 => thn h1 fun itv s2 h2 => ?_) hs
  obtain ⟨it, fp, tn, J, H2, e, I2, T, st2, f2, W, ⟨m0, w0⟩, turn⟩ := h2
  subst e
  -- what stays true of the iterator's objects through the loop
  have stat : ∀ {H' : Hp}, (∀ b ∈ fp, H' b = none) → ∀ b ∈ fp, FpOk X pins H' b := fun hn b hb => ⟨hn b hb, (f2 b hb).2⟩
  refine codeAny_forLoop_any (fun n s' => ∃ i σ' H', Inv X pins σ' H' s' ∧ tn i s'.heap ∧ (∀ b ∈ fp, H' b = none) ∧ W i n σ' H') ?_ m0 ⟨0, σ, H2, I2, st2, fun b hb => (f2 b hb).1, w0⟩
  rintro n s3 ⟨i, σ3, H3, I3, st3, fr3, w3⟩
  rcases turn i n σ3 H3 w3 with ⟨stop, qn⟩ | ⟨go, N, hN, step⟩
  · refine wpAny_passesOwn hp (thn (T.done X rfl rfl rfl hc i pins s3 σ3 H3 X.xe I3 (stat fr3) st3 stop) fun r s4 ⟨hr, I4⟩ => ?_)
    subst hr
    exact wpAny_execs_nil ⟨σ3, H3, I4, qn⟩
  · refine wpAny_passesOwn hp (thn (T.item X rfl rfl rfl hc i pins s3 σ3 H3 X.xe I3 (stat fr3) st3 go) fun r s4 ⟨u, hr, h4⟩ => ?_)
    subst hr
    refine wpAny_passesOwn hp (thn h4 fun _ s5 ⟨x, H5, I5, r5, y5, st5, fr5⟩ => ?_)
    have I5' := I5.pinned (stat fr5) (T.obj _ _ st5)
    refine wpAny_passesOwn hp (thn (hg _ s5 σ3 H5 x u _ I5' r5 (step x H5 y5)) fun _ s6 ⟨σ6, H6, I6, q6⟩ => ?_)
    refine wpAny_passesOwn hp (thn (hb _ s6 σ6 H6 _ I6 q6) fun f s7 q7 => ?_)
    have again : ∀ {σ7 : St} {H7 : Hp}, Inv X (pins ++ pinsAt fp s5.heap) σ7 H7 s7 → N σ7 H7 → ∃ m, m < n ∧ ∃ i σ' H', Inv X pins σ' H' s7 ∧ tn i s7.heap ∧ (∀ b ∈ fp, H' b = none) ∧ W i m σ' H' := fun {σ7 H7} I7 n7 => by
      obtain ⟨m', hm, w7⟩ := hN σ7 H7 n7
      refine ⟨m', hm, i + 1, σ7, H7, I7.unpinned, T.keep _ _ _ st5 fun b hb o e => (I7.pin (b, o) (List.mem_append_right _ (List.mem_append_right _ (mem_pinsAt hb e)))).1, fun b hb => ?_, w7⟩
      obtain ⟨o, e, d⟩ := T.obj _ _ st5 b hb
      exact (I7.pin (b, o) (List.mem_append_right _ (List.mem_append_right _ (mem_pinsAt hb e)))).2.1
    cases f with
    | next => obtain ⟨σ7, H7, I7, n7⟩ := q7; exact again I7 n7
    | cont => obtain ⟨σ7, H7, I7, n7⟩ := q7; exact again I7 n7
    | brk => obtain ⟨σ7, H7, I7, q7⟩ := q7; exact ⟨σ7, H7, I7.unpinned, q7⟩
    | ret v => obtain ⟨x7, σ7, H7, I7, r7, q7⟩ := q7; exact ⟨x7, σ7, H7, I7.unpinned, r7, q7⟩
end
theorem for_tup {K : PySem.W.Frag} {a : Addr} {xs : List V} {g : TG} {tb : TS} {D : Ends} {σ : St} {H : Hp} (Pv : Nat → St → Hp → Prop) (h0 : Pv 0 σ H) (hl : ∀ i σ H, i ≤ xs.length → Pv i σ H → SqT K H a xs)
    (hs : ∀ i x σ H, xs[i]? = some x → Pv i σ H → g x σ H fun σ2 H2 => tb { D with nx := Pv (i + 1), ct := Pv (i + 1), bk := D.nx } σ2 H2) (hd : ∀ σ H, Pv xs.length σ H → D.nx σ H) :
    ∃ W : Nat → Nat → St → Hp → Prop, (∃ m, W 0 m σ H) ∧ ∀ i m σ H, W i m σ H →
      ((Itt K a).stop i H ∧ D.nx σ H) ∨ ((Itt K a).go i H ∧ ∃ N : St → Hp → Prop, (∀ σ' H', N σ' H' → ∃ m', m' < m ∧ W (i + 1) m' σ' H') ∧ ∀ x H', (Itt K a).yld i H x H' → g x σ H' fun σ2 H2 => tb { D with nx := N, ct := N, bk := D.nx } σ2 H2) := by
  refine ⟨fun i m σ H => m = xs.length - i ∧ i ≤ xs.length ∧ Pv i σ H, ⟨xs.length, by simp, Nat.zero_le _, h0⟩, ?_⟩
  rintro i m σ H ⟨rfl, hi, p⟩
  have q := hl i σ H hi p
  by_cases hlt : i < xs.length
  · refine .inr ⟨⟨xs, xs[i], q, by simp [hlt]⟩, Pv (i + 1), fun σ' H' p' => ⟨xs.length - (i + 1), by omega, rfl, hlt, p'⟩, fun x H' y => ?_⟩
    obtain ⟨e, y⟩ := y
    subst e
    exact hs i x σ _ (y xs q) p
  · have e : i = xs.length := by omega
    subst e
    exact .inl ⟨⟨xs, q, Nat.le_refl _⟩, hd σ H p⟩
theorem for_range {lo : Int} {n : Nat} {g : TG} {tb : TS} {D : Ends} {σ : St} {H : Hp} (Pv : Nat → St → Hp → Prop) (h0 : Pv 0 σ H)
    (hs : ∀ i σ H, i < n → Pv i σ H → g (.int (lo + i)) σ H fun σ2 H2 => tb { D with nx := Pv (i + 1), ct := Pv (i + 1), bk := D.nx } σ2 H2) (hd : ∀ σ H, Pv n σ H → D.nx σ H) :
    ∃ W : Nat → Nat → St → Hp → Prop, (∃ m, W 0 m σ H) ∧ ∀ i m σ H, W i m σ H →
      ((Itr lo n).stop i H ∧ D.nx σ H) ∨ ((Itr lo n).go i H ∧ ∃ N : St → Hp → Prop, (∀ σ' H', N σ' H' → ∃ m', m' < m ∧ W (i + 1) m' σ' H') ∧ ∀ x H', (Itr lo n).yld i H x H' → g x σ H' fun σ2 H2 => tb { D with nx := N, ct := N, bk := D.nx } σ2 H2) := by
  refine ⟨fun i m σ H => m = n - i ∧ i ≤ n ∧ Pv i σ H, ⟨n, by simp, Nat.zero_le _, h0⟩, ?_⟩
  rintro i m σ H ⟨rfl, hi, p⟩
  by_cases hlt : i < n
  · refine .inr ⟨hlt, Pv (i + 1), fun σ' H' p' => ⟨n - (i + 1), by omega, rfl, hlt, p'⟩, fun x H' y => ?_⟩
    obtain ⟨e, y⟩ := y
    subst e y
    exact hs i σ _ hlt p
  · have e : i = n := by omega
    subst e
    exact .inl ⟨Nat.le_refl _, hd σ H p⟩
theorem while_by {c : TT} {tb : TS} {D : Ends} {σ : St} {H : Hp} (Pv : St → Hp → Prop) (μ : St → Hp → Nat) (h0 : Pv σ H)
    (hs : ∀ σ H, Pv σ H → c σ H fun b H1 => if b = true then tb { D with nx := fun σ' H' => Pv σ' H' ∧ μ σ' H' < μ σ H, ct := fun σ' H' => Pv σ' H' ∧ μ σ' H' < μ σ H, bk := D.nx } σ H1 else D.nx σ H1)
    (mono : ∀ σ H Q Q', (∀ b H1, Q b H1 → Q' b H1) → c σ H Q → c σ H Q') : tWhile c tb D σ H := by
  refine ⟨fun m σ H => m = μ σ H ∧ Pv σ H, ⟨_, rfl, h0⟩, ?_⟩
  rintro m σ H ⟨rfl, p⟩
  refine mono σ H _ _ (fun b H1 q => ?_) (hs σ H p)
  cases b with
  | true => exact ⟨_, fun σ' H' ⟨p', l⟩ => ⟨_, l, rfl, p'⟩, q⟩
  | false => exact q
end L2
namespace L2
open PySem PySem.Spec PyProof.Rows
abbrev R2 := V → V → Hp → VK → Prop
def OpR (X : Cx) (f : Value → Value → Sem Value) (r : R2) : Prop :=
  ∀ (pins : List (Addr × Obj)) (s : Shared) (σ : St) (H : Hp) (x y : V) (v u : Value) (Q : VK), Inv X pins σ H s → RelV x v → RelV y u → r x y H Q →
    wpAny (model X.prog X.w) X.A (f v u) (EP X pins σ Q) X.xe s
def CallR (X : Cx) (f : Value) (r : List V → Hp → VK → Prop) : Prop :=
  ∀ (pins : List (Addr × Obj)) (s : Shared) (σ : St) (H : Hp) (xs : List V) (us : List Value) (Q : VK), Inv X pins σ H s → Vals xs us → r xs H Q →
    wpAny (model X.prog X.w) X.A (call f us) (EP X pins σ Q) X.xe s
def tOp (r : R2) (ta tb : TE) : TE := fun σ H Q => ta σ H fun x H1 => tb σ H1 fun y H2 => r x y H2 Q
def tUn (r : V → Hp → VK → Prop) (ta : TE) : TE := fun σ H Q => ta σ H fun x H1 => r x H1 Q
def rI (C : Int → Int → Prop) (g : Int → Int → V) : R2 := fun x y H Q => ∃ i j, x = .int i ∧ y = .int j ∧ C i j ∧ Q (g i j) H
def rI0 (g : Int → Int → V) : R2 := fun x y H Q => ∃ i j, x = .int i ∧ y = .int j ∧ Q (g i j) H
def rU (g : Int → V) : V → Hp → VK → Prop := fun x H Q => ∃ i, x = .int i ∧ Q (g i) H
section
variable {X : Cx} {a b c : Expr} {ta tb tc : TE} {pos : Pos}
theorem binT (ha : PE X a ta) (hb : PE X b tb) {pins : List (Addr × Obj)} {s : Shared} {σ : St} {H : Hp} {R : V → V → Hp → Prop} (I : Inv X pins σ H s)
    (h : ta σ H fun x H1 => tb σ H1 fun y H2 => R x y H2) {Q : Value → Shared → Prop} {f : Value → Value → Sem Value}
    (hf : ∀ v u s2 x y H2, Inv X pins σ H2 s2 → RelV x v → RelV y u → R x y H2 → wpAny (model X.prog X.w) X.A (f v u) Q X.xe s2) :
    wpAny (model X.prog X.w) X.A (eval a X.env) (fun v s₁ => wpAny (model X.prog X.w) X.A (eval b X.env) (fun u s₂ => wpAny (model X.prog X.w) X.A (f v u) Q X.xe s₂) X.xe s₁) X.xe s := by
  refine thn (ha pins s σ H _ I h) fun v s1 ⟨x, H1, I1, r1, q1⟩ => ?_
  refine thn (hb pins s1 σ H1 _ I1 q1) fun u s2 ⟨y, H2, I2, r2, q2⟩ => ?_
  exact hf v u s2 x y H2 I2 r1 r2 q2
theorem pe_op {op : Operator} {r : R2} (ho : OpR X (binaryOp op) r) (ha : PE X a ta) (hb : PE X b tb) : PE X (.BinOp a op b pos) (tOp r ta tb) := by
  intro pins s σ H Q I h
  exact wpAny_BinOp (binT ha hb I h fun v u s2 x y H2 I2 rx ry q => ho pins s2 σ H2 x y v u Q I2 rx ry q)
theorem opI {f : Value → Value → Sem Value} {C : Int → Int → Prop} {g : Int → Int → Int}
    (rule : ∀ (i j : Int) (t u : Tok) (s : Shared) (Q : Value → Shared → Prop) (E : Value → Shared → Prop), C i j → Q (.int (g i j) s.toks) { s with toks := s.toks + 1 } → wpAny (model X.prog X.w) X.A (f (.int i t) (.int j u)) Q E s) :
    OpR X f (rI C fun i j => .int (g i j)) := by
  intro pins s σ H x y v u Q I rx ry h
  obtain ⟨i, j, rfl, rfl, hc, q⟩ := h
  obtain ⟨t, rfl⟩ := rx
  obtain ⟨t', rfl⟩ := ry
  exact rule i j t t' s _ _ hc ⟨.int (g i j), H, I.tok _, ⟨_, rfl⟩, q⟩
def CDiv (i j : Int) : Prop := 0 < j ∧ j < 1073741824
def CMul (i j : Int) : Prop := (-(2 ^ 64) < i ∧ i < 2 ^ 64) ∨ (-(2 ^ 64) < j ∧ j < 2 ^ 64)
theorem CMul.ok {i j : Int} (h : CMul i j) : IntMulOk i j := by
  rcases h with ⟨h1, h2⟩ | ⟨h1, h2⟩
  · exact .of_left (intBits_le_64 h1 h2)
  · exact .of_right (intBits_le_64 h1 h2)
theorem op_mul : OpR X (binaryOp .Mult) (rI CMul fun i j => .int (i * j)) := opI fun _ _ _ _ _ _ _ hc q => mul_int q hc.ok
theorem op_fdiv : OpR X (binaryOp .FloorDiv) (rI CDiv fun i j => .int (i / j)) := opI fun i j _ _ _ _ _ hc q => by
  have h1 : (0 : Int) < j := hc.1
  have h2 : j < 1073741824 := hc.2
  exact floordiv_int (by omega) (by rw [Int.fdiv_eq_ediv_of_nonneg i (by omega)]; exact q) (.inl (PyProof.noPylong_small (by omega)))
theorem op_mod : OpR X (binaryOp .Mod) (rI (fun _ j => 0 < j) fun i j => .int (i % j)) := opI fun i j _ _ _ _ _ hc q => by
  have h1 : (0 : Int) < j := hc
  exact mod_int' (by omega) (by rw [Int.fmod_eq_emod_of_nonneg i (by omega)]; exact q)
end
def scal : V → V → Bool
  | .non, .non => true | .non, .int _ => true | .int _, .non => true | .non, .bl _ => true | .bl _, .non => true | .non, .str _ => true | .str _, .non => true
  | .int _, .int _ => true | .bl _, .bl _ => true | .str _, .str _ => true | .byt _, .byt _ => true
  | .int _, .str _ => true | .str _, .int _ => true | .bl _, .str _ => true | .str _, .bl _ => true
  | _, _ => false
def rEq : R2 := fun x y H Q => scal x y = true ∧ Q (.bl (decide (x = y))) H
def rNe : R2 := fun x y H Q => scal x y = true ∧ Q (.bl (!decide (x = y))) H
theorem dec_int {i j : Int} : decide (V.int i = V.int j) = (i == j) := by
  rw [Bool.eq_iff_iff]
  simp
theorem dec_bl {i j : Bool} : decide (V.bl i = V.bl j) = (i == j) := by
  rw [Bool.eq_iff_iff]
  simp
theorem dec_str {i j : Str} : decide (V.str i = V.str j) = (i == j) := by
  rw [Bool.eq_iff_iff]
  simp
theorem dec_byt {i j : Array UInt8} : decide (V.byt i = V.byt j) = (i.toList == j.toList) := by
  rw [Bool.eq_iff_iff]
  cases i
  cases j
  simp
section
variable {X : Cx} {a b c : Expr} {ta tb tc : TE} {pos : Pos}
theorem fin_bl {pins : List (Addr × Obj)} {σ : St} {H : Hp} {s : Shared} {Q : VK} {k k' : Bool} (I : Inv X pins σ H s) (q : Q (.bl k) H) (e : k = k') : EP X pins σ Q (.bool k') s := by
  subst e
  exact ⟨.bl k, H, I, rfl, q⟩
theorem op_eq : OpR X (compareOp .Eq) rEq := by
  intro pins s σ H x y v u Q I rx ry h
  obtain ⟨hs, q⟩ := h
  cases x with
  | non =>
    cases rx
    cases y with
    | non => cases ry; exact PySem.EqNone.eq_none_none (fin_bl I q (by simp))
    | bl j => cases ry; exact PySem.EqNone.eq_none_bool (fin_bl I q (by simp))
    | int j => obtain ⟨t', rfl⟩ := ry; exact PySem.EqNone.eq_none_int (fin_bl I q (by simp))
    | str j => obtain ⟨t', rfl⟩ := ry; exact PySem.EqNone.eq_none_str (fin_bl I q (by simp))
    | _ => exact absurd (show false = true from hs) Bool.false_ne_true
  | bl i =>
    cases rx
    cases y with
    | non => cases ry; exact PySem.EqNone.eq_bool_none (fin_bl I q (by simp))
    | bl j => cases ry; exact eq_bool (fin_bl I q dec_bl)
    | str j => obtain ⟨t', rfl⟩ := ry; exact PySem.EqMixed.eq_bool_str (fin_bl I q (by simp))
    | _ => exact absurd (show false = true from hs) Bool.false_ne_true
  | int i =>
    obtain ⟨t, rfl⟩ := rx
    cases y with
    | non => cases ry; exact PySem.EqNone.eq_int_none (fin_bl I q (by simp))
    | int j => obtain ⟨t', rfl⟩ := ry; exact eq_int (fin_bl I q dec_int)
    | str j => obtain ⟨t', rfl⟩ := ry; exact PySem.EqMixed.eq_int_str (fin_bl I q (by simp))
    | _ => exact absurd (show false = true from hs) Bool.false_ne_true
  | str i =>
    obtain ⟨t, rfl⟩ := rx
    cases y with
    | non => cases ry; exact PySem.EqNone.eq_str_none (fin_bl I q (by simp))
    | bl j => cases ry; exact PySem.EqMixed.eq_str_bool (fin_bl I q (by simp))
    | int j => obtain ⟨t', rfl⟩ := ry; exact PySem.EqMixed.eq_str_int (fin_bl I q (by simp))
    | str j => obtain ⟨t', rfl⟩ := ry; exact eq_str (fin_bl I q dec_str)
    | _ => exact absurd (show false = true from hs) Bool.false_ne_true
  | byt i =>
    obtain ⟨t, rfl⟩ := rx
    cases y with
    | byt j => obtain ⟨t', rfl⟩ := ry; exact PySem.W.eq_bytes (fin_bl I q dec_byt)
    | _ => exact absurd (show false = true from hs) Bool.false_ne_true
  | _ => cases y <;> exact absurd (show false = true from hs) Bool.false_ne_true
theorem op_ne : OpR X (compareOp .NotEq) rNe := by
  intro pins s σ H x y v u Q I rx ry h
  obtain ⟨hs, q⟩ := h
  cases x with
  | non =>
    cases rx
    cases y with
    | non => cases ry; exact PySem.EqNone.ne_none_none (fin_bl I q (by simp))
    | bl j => cases ry; exact PySem.EqNone.ne_none_bool (fin_bl I q (by simp))
    | int j => obtain ⟨t', rfl⟩ := ry; exact PySem.EqNone.ne_none_int (fin_bl I q (by simp))
    | str j => obtain ⟨t', rfl⟩ := ry; exact PySem.EqNone.ne_none_str (fin_bl I q (by simp))
    | _ => exact absurd (show false = true from hs) Bool.false_ne_true
  | bl i =>
    cases rx
    cases y with
    | non => cases ry; exact PySem.EqNone.ne_bool_none (fin_bl I q (by simp))
    | bl j => cases ry; exact ne_bool (fin_bl I q (congrArg not dec_bl))
    | str j => obtain ⟨t', rfl⟩ := ry; exact PySem.EqMixed.ne_bool_str (fin_bl I q (by simp))
    | _ => exact absurd (show false = true from hs) Bool.false_ne_true
  | int i =>
    obtain ⟨t, rfl⟩ := rx
    cases y with
    | non => cases ry; exact PySem.EqNone.ne_int_none (fin_bl I q (by simp))
    | int j => obtain ⟨t', rfl⟩ := ry; exact ne_int (fin_bl I q (congrArg not dec_int))
    | str j => obtain ⟨t', rfl⟩ := ry; exact PySem.EqMixed.ne_int_str (fin_bl I q (by simp))
    | _ => exact absurd (show false = true from hs) Bool.false_ne_true
  | str i =>
    obtain ⟨t, rfl⟩ := rx
    cases y with
    | non => cases ry; exact PySem.EqNone.ne_str_none (fin_bl I q (by simp))
    | bl j => cases ry; exact PySem.EqMixed.ne_str_bool (fin_bl I q (by simp))
    | int j => obtain ⟨t', rfl⟩ := ry; exact PySem.EqMixed.ne_str_int (fin_bl I q (by simp))
    | str j => obtain ⟨t', rfl⟩ := ry; exact ne_str (fin_bl I q (congrArg not dec_str))
    | _ => exact absurd (show false = true from hs) Bool.false_ne_true
  | byt i =>
    obtain ⟨t, rfl⟩ := rx
    cases y with
    | byt j => obtain ⟨t', rfl⟩ := ry; exact PySem.W.ne_bytes (fin_bl I q (congrArg not dec_byt))
    | _ => exact absurd (show false = true from hs) Bool.false_ne_true
  | _ => cases y <;> exact absurd (show false = true from hs) Bool.false_ne_true
theorem OpR.or {f : Value → Value → Sem Value} {r r' : R2} (h : OpR X f r) (h' : OpR X f r') : OpR X f (fun x y H Q => r x y H Q ∨ r' x y H Q) := by
  intro pins s σ H x y v u Q I rx ry q
  rcases q with q | q
  · exact h pins s σ H x y v u Q I rx ry q
  · exact h' pins s σ H x y v u Q I rx ry q
theorem nomark (b : Expr) {op : CmpOp} (h : op ≠ .In := by decide) (h2 : op ≠ .NotIn := by decide) : behindInMarks op b = false := by
  have e1 : (op == CmpOp.In) = false := by cases op <;> first | rfl | exact absurd rfl h
  have e2 : (op == CmpOp.NotIn) = false := by cases op <;> first | rfl | exact absurd rfl h2
  cases b <;> simp [behindInMarks, e1, e2]
theorem pe_cmpR {op : CmpOp} {r : R2} (ho : OpR X (compareOp op) r) (ha : PE X a ta) (hb : PE X b tb) (hm : behindInMarks op b = false) : PE X (.Compare a [op] [b] pos) (tOp r ta tb) := by
  intro pins s σ H Q I h
  exact wpAny_Compare1 (binT ha hb I h fun v u s2 x y H2 I2 rx ry q => ho pins s2 σ H2 x y v u Q I2 rx ry q) hm
def tTest (t : TE) : TT := fun σ H Q => t σ H fun x H' => ∃ k, x = .bl k ∧ Q k H'
theorem pt_cmpR {op : CmpOp} {r : R2} (ho : OpR X (compareOp op) r) (ha : PE X a ta) (hb : PE X b tb) (hm : behindInMarks op b = false) : PT X (.Compare a [op] [b] pos) (tTest (tOp r ta tb)) := by
  intro pins s σ H Q I h
  refine wpAny_isTrue_Compare1 (thn (ha pins s σ H _ I h) fun v s1 ⟨x, H1, I1, r1, q1⟩ => thn (hb pins s1 σ H1 _ I1 q1) fun u s2 ⟨y, H2, I2, r2, q2⟩ =>
    thn (ho pins s2 σ H2 x y v u _ I2 r1 r2 q2) fun c s3 ⟨z, H3, I3, r3, k, e, q3⟩ => ?_) hm
  subst e
  cases r3
  exact wpAny_truthy_bool ⟨H3, I3, q3⟩
theorem line63 : (sizeLine : Nat) < 2 ^ 63 := by rw [sizeLine_eq]; decide
theorem vals1 {x : V} {us : List Value} (r : Vals [x] us) : ∃ u, us = [u] ∧ RelV x u := by
  cases r with
  | cons r1 r2 => cases r2; exact ⟨_, rfl, r1⟩
theorem vals2 {x y : V} {us : List Value} (r : Vals [x, y] us) : ∃ u w', us = [u, w'] ∧ RelV x u ∧ RelV y w' := by
  cases r with
  | cons r1 r2 =>
    cases r2 with
    | cons r3 r4 => cases r4; exact ⟨_, _, rfl, r1, r3⟩
theorem call_max2 (hc : X.calm = true) : CallR X (.builtin "max") (fun xs H Q => ∃ i j, xs = [.int i, .int j] ∧ Q (.int (if j > i then j else i)) H) := by
  intro pins s σ H xs us Q I r h
  obtain ⟨i, j, rfl, q⟩ := h
  obtain ⟨u, w', rfl, ⟨t, rfl⟩, ⟨t', rfl⟩⟩ := vals2 r
  refine max_two_ints (I.ok.hd hc) fun h' tk k => ⟨_, H, I.kept k, ?_, q⟩
  by_cases hj : j > i
  · rw [if_pos hj, if_pos hj]; exact ⟨_, rfl⟩
  · rw [if_neg hj, if_neg hj]; exact ⟨_, rfl⟩
end
end L2
namespace L2
open PySem PySem.Spec PyProof.Rows
structure ObjM (h : Heap) (x dx C : Addr) (mA : Str → Option Value) : Prop where
  obj : h.get? x = some (PySem.W.instObj C dx)
  ns : h.Ns1 dx mA
  ne : dx ≠ x
theorem lookIn_ns {h : Heap} {dx : Addr} {mA : Str → Option Value} (n : h.Ns1 dx mA) : ∃ od, h.get? dx = some od ∧ ∀ name, PySem.W.lookIn name od = some (mA name) := by
  obtain ⟨o, es, ep, ho, hd, hk, _, hm⟩ := n
  refine ⟨o, ho, fun name => ?_⟩
  have e := hm name
  unfold nsFind findBy at e
  rw [← Array.find?_toList] at e
  unfold PySem.W.lookIn
  rw [hd]
  dsimp only
  split
  · rename_i y q
    rw [q] at e
    exact congrArg some e
  · rename_i q
    rw [q] at e
    have a : es.toList.any (·.refKey) = false := by
      rw [List.any_eq_false]
      intro y hy
      obtain ⟨z, t, hkey⟩ := hk y (Array.mem_toList_iff.mp hy)
      simp [DictEntry.refKey, hkey]
    have a' : ¬ es.toList.any (·.refKey) = true := by rw [a]; exact Bool.false_ne_true
    rw [if_neg a']
    exact congrArg some e
theorem ObjM.look {h : Heap} {x dx C : Addr} {mA : Str → Option Value} (I : ObjM h x dx C mA) : ∃ od, PySem.W.InstAt h x (PySem.W.instObj C dx) C (some od) ∧ ∀ name, PySem.W.lookIn name od = some (mA name) :=
  let ⟨od, ho, hl⟩ := lookIn_ns I.ns
  ⟨od, ⟨I.obj, rfl, rfl, ho⟩, hl⟩
section
variable {prog : Program} {w : World} {A : Around} {E : Value → Shared → Prop} {s : Shared} {K : PySem.W.Frag} {x dx C f : Addr} {mA : Str → Option Value} {name : Str} {v : Value}
theorem get_map {expr : Bool} {Q : Value → Shared → Prop} (X : K.In s.heap) (I : ObjM s.heap x dx C mA) (hg : PySem.W.plainGet K C name = true) (hh : PySem.W.hasDictIn K C = true)
    (ha : PySem.W.findIn K (.ref C) name = some none) (hv : mA name = some v) (hv' : PySem.W.handedIn v = true) (h : Q v { s with toks := s.toks + 1 }) :
    wpAny (model prog w) A (getAttr (.ref x) name expr) Q E s := by
  obtain ⟨od, J, hl⟩ := I.look
  exact PySem.W.get_value X J (PySem.W.plainGet_of hg).1 (PySem.W.findObj_own hh ha rfl (by rw [hl, hv])) hv' h
theorem get_meth {pl : Sem Bool} {Q : Value × List Value → Shared → Prop} (X : K.In s.heap) (I : ObjM s.heap x dx C mA) (hg : PySem.W.plainGet K C name = true)
    (hf : PySem.W.findIn K (.ref C) name = some (some (.ref f))) (ht : PySem.W.isFn K (.ref f) = true) (hv : mA name = none) (h : Q (.ref f, [.ref x]) s) :
    wpAny (model prog w) A (getMethod (.ref x) name pl) Q E s := by
  obtain ⟨od, J, hl⟩ := I.look
  exact PySem.W.method_fn X J (PySem.W.plainGet_of hg).1 (PySem.W.plainGet_of hg).2 hf (beq_iff_eq.mp ht) (by show (PySem.W.lookIn name od).map (·.isSome) = some false; rw [hl, hv]; rfl) h
theorem set_map {ns : List Str} {Q : Unit → Shared → Prop} (X : K.In s.heap) (I : ObjM s.heap x dx C mA)
    (hs : PySem.W.findIn K (.ref C) "__setattr__" = some (some (.builtin "object.__setattr__"))) (hp : PySem.W.plainOver K C = true) (ht : PySem.W.takerIn K C name = some none) (hh : PySem.W.hasDictIn K C = true)
    (hw : PySem.Within mA ns) (hsz : ns.length ≤ sizeLine)
    (h : ∀ h', ObjM h' x dx C (fun y => if y = name then some v else mA y) → Heap.SameBut dx s.heap h' → Q () { s with heap := h', toks := s.toks + 2 }) :
    wpAny (model prog w) A (setAttr (.ref x) name v) Q E s := by
  obtain ⟨od, J, hl⟩ := I.look
  refine PySem.W.set_plain X J hs (PySem.W.osa_open (s := { s with toks := s.toks + 1 }) (r := none) X J hp ht fun b => ?_)
  obtain ⟨cd, hc, hd'⟩ := PySem.W.any_some hh
  have hx : s.heap.get? x = some ⟨.ref C, some dx, .plain, #[]⟩ := I.obj
  refine wpAny_bind (wpAny_pure (wpAny_bind (wpAny_bind (wpAny_loadPart hx (wpAny_bind (PySem.W.Looks.here (s := { s with toks := s.toks + 1 }) (PySem.W.looks_clsIn X hc) ?_))))))
  rw [hd']
  refine wpAny_pure (a := some dx) (wpAny_bind (wpAny_pure (wpAny_bind ?_)))
  refine wpAny_nsSet1 (s := { s with toks := s.toks + 1 }) I.ns fun h' hn2 hs2 => ?_
  obtain ⟨oD, esD, epD, hoD, hdD, hcD⟩ := hn2.count (PySem.Within.cons name v hw)
  refine wpAny_bind (wpAny_lookBehind hoD (by rw [hdD]; exact pastItsLine_dict (Nat.le_trans hcD (by rw [List.length_cons]; omega))) ?_)
  exact wpAny_pure (h _ ⟨(hs2.2 _ (Ne.symm I.ne)).trans I.obj, hn2, I.ne⟩ hs2)
theorem make_map {R : Result → Shared → Prop} {vs : List Value} {kw : List (Str × Value)} (X : K.In s.heap) (hm : PySem.W.makesIn K C = true)
    (hi : PySem.W.findIn K (.ref C) "__init__" = some (some (.ref f))) (hf : PySem.W.typeIn K (.ref f) = some (.type "function"))
    (h : codeAny (model prog w) (A.under (.builtin "type.__call__" ⟨.ref C :: vs, kw⟩)) (.call (.ref f) ⟨.ref (s.heap.objs.size + 1) :: vs, kw⟩) (PySem.W.InitBack (s.heap.objs.size + 1) R)
      { s with heap := (s.heap.push PySem.W.emptyDict).push (PySem.W.instObj C s.heap.objs.size) }) :
    codeAny (model prog w) A (.call (.ref C) ⟨vs, kw⟩) R s := by
  obtain ⟨hh, g, d, t, os⟩ := s
  exact PySem.W.make_core (PySem.W.makes_of X hm) (PySem.W.looks_findIn X hi) (fun self => PySem.W.bind_fn X self hf) (.inl rfl) h
end
def putF (f : Str) (v : V) : List (Str × V) → List (Str × V)
  | [] => [(f, v)]
  | (g, x) :: r => if g = f then (g, v) :: r else (g, x) :: putF f v r
theorem lookup_putF (f g : Str) (v : V) : ∀ fs : List (Str × V), (putF f v fs).lookup g = if g = f then some v else fs.lookup g
  | [] => by
    show List.lookup g [(f, v)] = _
    by_cases h : g = f
    · have hb : (g == f) = true := beq_iff_eq.mpr h
      simp only [List.lookup, hb, if_pos h]
    · have hb : (g == f) = false := beq_eq_false_iff_ne.mpr h
      simp only [List.lookup, hb, if_neg h]
  | (k, x) :: r => by
    have ih := lookup_putF f g v r
    rw [show putF f v ((k, x) :: r) = (if k = f then (k, v) :: r else (k, x) :: putF f v r) from rfl]
    by_cases hk : k = f
    · rw [if_pos hk]
      by_cases h : g = k
      · have hb : (g == k) = true := beq_iff_eq.mpr h
        simp only [List.lookup, hb, if_pos (h.trans hk)]
      · have hb : (g == k) = false := beq_eq_false_iff_ne.mpr h
        simp only [List.lookup, hb, if_neg (fun e : g = f => h (e.trans hk.symm))]
    · rw [if_neg hk]
      by_cases h : g = k
      · have hb : (g == k) = true := beq_iff_eq.mpr h
        simp only [List.lookup, hb, if_neg (fun e : g = f => hk (h.symm.trans e))]
      · have hb : (g == k) = false := beq_eq_false_iff_ne.mpr h
        simp only [List.lookup, hb]
        exact ih
theorem keys_putF (f : Str) (v : V) : ∀ fs : List (Str × V), f ∈ (putF f v fs).map (·.1) ∧ ∀ g, g ∈ fs.map (·.1) → g ∈ (putF f v fs).map (·.1)
  | [] => ⟨by simp [putF], fun g h => by simp at h⟩
  | (k, x) :: r => by
    obtain ⟨i1, i2⟩ := keys_putF f v r
    rw [show putF f v ((k, x) :: r) = (if k = f then (k, v) :: r else (k, x) :: putF f v r) from rfl]
    by_cases hk : k = f
    · rw [if_pos hk]
      subst hk
      exact ⟨by simp, fun g h => by simpa using h⟩
    · rw [if_neg hk]
      refine ⟨?_, fun g h => ?_⟩
      · rw [List.map_cons]
        exact List.mem_cons_of_mem _ i1
      · rw [List.map_cons] at h ⊢
        rcases List.mem_cons.mp h with e | e
        · exact List.mem_cons.mpr (.inl e)
        · exact List.mem_cons_of_mem _ (i2 g e)
theorem length_putF (f : Str) (v : V) : ∀ fs : List (Str × V), (putF f v fs).length ≤ fs.length + 1
  | [] => by simp [putF]
  | (k, x) :: r => by
    have ih := length_putF f v r
    rw [show putF f v ((k, x) :: r) = (if k = f then (k, v) :: r else (k, x) :: putF f v r) from rfl]
    by_cases hk : k = f
    · rw [if_pos hk, List.length_cons, List.length_cons]; omega
    · rw [if_neg hk, List.length_cons, List.length_cons]; omega
theorem RelO.some_of {v : V} {o : Option Value} (r : RelO (some v) o) : ∃ u, o = some u ∧ RelV v u := by
  cases o with
  | none => exact (show False from r).elim
  | some u => exact ⟨u, rfl, r⟩
theorem RelO.none_of {o : Option Value} (r : RelO none o) : o = none := by
  cases o with
  | none => rfl
  | some u => exact (show False from r).elim
theorem handed_of {v : V} {u : Value} (r : RelV v u) : PySem.W.handedIn u = true := by
  cases v with
  | non => cases (show u = Value.none from r); rfl
  | bl b => cases (show u = Value.bool b from r); rfl
  | int i => obtain ⟨t, e⟩ := (show ∃ t, u = Value.int i t from r); cases e; rfl
  | str x => obtain ⟨t, e⟩ := (show ∃ t, u = Value.str x t from r); cases e; rfl
  | byt b => obtain ⟨t, e⟩ := (show ∃ t, u = Value.bytes b t from r); cases e; rfl
  | flt b => obtain ⟨t, e⟩ := (show ∃ t, u = Value.float b t from r); cases e; rfl
  | ref a => cases (show u = Value.ref a from r); rfl
  | ty n => cases (show u = Value.type n from r); rfl
section
variable {P : Program} {w : World} {H H' : Hp} {h h' : Heap} {a C dx : Addr} {fs fs' : List (Str × V)}
theorem ins_get (hok : HOk P w H h) (e : H a = some (.ins C dx fs)) : ∃ mA, ObjM h a dx C mA ∧ (∀ f, RelO (fs.lookup f) (mA f)) ∧ PySem.Within mA (fs.map (·.1)) ∧ fs.length ≤ 1000 ∧ H dx = some (.own a) := by
  obtain ⟨d, z, ne, ob, mA, n, r, q⟩ := (show ObjOk P w H h a (.ins C dx fs) from hok a _ e)
  exact ⟨mA, ⟨ob, n, ne⟩, r, q, z, d⟩
end
structure Cls (K : PySem.W.Frag) (C : Addr) : Prop where
  pg : PySem.W.plainGet K C Str.empty = true
  hd : PySem.W.hasDictIn K C = true
  po : PySem.W.plainOver K C = true
  sa : PySem.W.findIn K (.ref C) "__setattr__" = some (some (.builtin "object.__setattr__"))
theorem Cls.get {K : PySem.W.Frag} {C : Addr} (c : Cls K C) (f : Str) : PySem.W.plainGet K C f = true := c.pg
def NoAttr (K : PySem.W.Frag) (C : Addr) (f : Str) : Prop := PySem.W.findIn K (.ref C) f = some none
theorem NoAttr.taker {K : PySem.W.Frag} {C : Addr} {f : Str} (n : NoAttr K C f) : PySem.W.takerIn K C f = some none := by
  unfold PySem.W.takerIn
  rw [show PySem.W.findIn K (.ref C) f = some none from n]
  rfl
structure Meth (K : PySem.W.Frag) (C : Addr) (m : Str) (f : Addr) : Prop where
  at_ : PySem.W.findIn K (.ref C) m = some (some (.ref f))
  fn : PySem.W.isFn K (.ref f) = true
  kp : PySem.W.keepIn K (.ref f) = true
section
variable {X : Cx} {pins : List (Addr × Obj)} {σ : St} {H : Hp} {s : Shared} {a C dx : Addr} {fs : List (Str × V)} {f : Str} {v : V} {A : Around} {E : Value → Shared → Prop}
theorem getattr_ok {b : Bool} {Q : Value → Shared → Prop} (I : Inv X pins σ H s) (e : H a = some (.ins C dx fs)) (c : Cls X.K C) (n : NoAttr X.K C f) (l : fs.lookup f = some v)
    (h : ∀ u s', Inv X pins σ H s' → RelV v u → Q u s') : wpAny (model X.prog X.w) A (getAttr (.ref a) f b) Q E s := by
  obtain ⟨mA, O, r, _, _, _⟩ := ins_get I.hok e
  obtain ⟨u, hu, ru⟩ := RelO.some_of (v := v) (o := mA f) (by rw [← l]; exact r f)
  exact get_map I.kIn O (c.get f) c.hd n hu (handed_of ru) (h u _ (I.tok _) ru)
theorem getmeth_ok {m : Str} {g : Addr} {pl : Sem Bool} {Q : Value × List Value → Shared → Prop} (I : Inv X pins σ H s) (e : H a = some (.ins C dx fs)) (c : Cls X.K C) (k : Meth X.K C m g) (l : fs.lookup m = none)
    (h : Q (.ref g, [.ref a]) s) : wpAny (model X.prog X.w) A (getMethod (.ref a) m pl) Q E s := by
  obtain ⟨mA, O, r, _, _, _⟩ := ins_get I.hok e
  have hn : mA m = none := RelO.none_of (by rw [← l]; exact r m)
  exact get_meth I.kIn O (c.get m) k.at_ k.fn hn h
theorem setattr_ok {y : V} {u : Value} {Q : Unit → Shared → Prop} (I : Inv X pins σ H s) (e : H a = some (.ins C dx fs)) (c : Cls X.K C) (n : NoAttr X.K C f) (hl : fs.length < 1000) (ry : RelV y u)
    (h : ∀ s', Inv X pins σ (upd H a (.ins C dx (putF f y fs))) s' → Q () s') : wpAny (model X.prog X.w) A (setAttr (.ref a) f u) Q E s := by
  obtain ⟨mA, O, r, wi, _, ho⟩ := ins_get I.hok e
  have hz : (fs.map (·.1)).length ≤ sizeLine := by rw [List.length_map, sizeLine_eq]; omega
  refine set_map I.kIn O c.sa c.po n.taker c.hd wi hz fun h' O' sb => h _ ?_
  have hd : ∃ o, h'.get? dx = some o := let ⟨o, _, _, e', _⟩ := O'.ns; ⟨o, e'⟩
  refine I.write (x := a) (e := dx) (by rw [e]; exact True.intro) (.inr ho) (fun b q hb z => (sb.2 b hb).trans z) hd ?_
  refine ⟨by rw [upd_ne O.ne]; exact ho, ?_, O.ne, O'.obj, _, O'.ns, fun g => ?_, fun g hg => ?_⟩
  · have := length_putF f y fs; omega
  · show RelO ((putF f y fs).lookup g) (if g = f then some u else mA g)
    rw [lookup_putF]
    by_cases q : g = f
    · rw [if_pos q, if_pos q]; exact ry
    · rw [if_neg q, if_neg q]; exact r g
  · by_cases q : g = f
    · rw [q]; exact (keys_putF f y fs).1
    · refine (keys_putF f y fs).2 g (wi g fun z => hg ?_)
      show (if g = f then some u else mA g) = none
      rw [if_neg q]; exact z
theorem Inv.made (I : Inv X pins σ H s) : Inv X pins σ (upd (upd H s.heap.objs.size (.own (s.heap.objs.size + 1))) (s.heap.objs.size + 1) (.ins C s.heap.objs.size []))
    { s with heap := (s.heap.push PySem.W.emptyDict).push (PySem.W.instObj C s.heap.objs.size) } := by
  have e1 : (s.heap.push PySem.W.emptyDict).get? s.heap.objs.size = some PySem.W.emptyDict := Heap.get?_push_size s.heap rfl
  have e2 : ((s.heap.push PySem.W.emptyDict).push (PySem.W.instObj C s.heap.objs.size)).get? (s.heap.objs.size + 1) = some (PySem.W.instObj C s.heap.objs.size) := by
    have := Heap.get?_push_size (s.heap.push PySem.W.emptyDict) (o := PySem.W.instObj C s.heap.objs.size) rfl
    rwa [Heap.size_push] at this
  have e3 : (s.heap.push PySem.W.emptyDict).Ns s.heap.objs.size (fun _ => none) := ⟨PySem.W.emptyDict, #[], _, e1, rfl, (fun e he => absurd he (by simp)), fun _ => rfl⟩
  have I1 := I.laid (a := s.heap.objs.size) (o := .own (s.heap.objs.size + 1)) (h' := s.heap.push PySem.W.emptyDict) (t' := s.toks) (fun b u q => Heap.get?_push_of_some _ q) (Nat.le_refl _) ⟨_, e1⟩
  refine I1.laid (a := s.heap.objs.size + 1) (o := .ins C s.heap.objs.size []) (t' := s.toks) (fun b u q => Heap.get?_push_of_some _ q) (Nat.le_of_eq (Heap.size_push _ _)) ?_
  have ne : s.heap.objs.size ≠ s.heap.objs.size + 1 := Nat.ne_of_lt (Nat.lt_succ_self _)
  refine ⟨by rw [upd_ne ne, upd_same], Nat.zero_le _, ne, e2, fun _ => none, (Heap.Ns1.of_empty e3).at fun o q => Heap.get?_push_of_some _ q, fun _ => True.intro, fun y hy => absurd rfl hy⟩
theorem attr_of {prog : Program} {w : World} {env : Env} {e : Expr} {f : Str} {pos : Pos} {s : Shared} {Q : Value → Shared → Prop} (hb : attributeBase e f env (eval e env) = eval e env)
    (h : wpAny (model prog w) A (eval e env) (fun o s₁ => wpAny (model prog w) A (getAttr o f true) Q E s₁) E s) : wpAny (model prog w) A (eval (.Attribute e f pos) env) Q E s :=
  Attribute_any_ h (by rw [arm_eval_Attribute, hb])
end
def tFld (K : PySem.W.Frag) (ta : TE) (f : Str) : TE := fun σ H Q => ta σ H fun x H1 => ∃ a C dx fs v, x = .ref a ∧ H1 a = some (.ins C dx fs) ∧ Cls K C ∧ NoAttr K C f ∧ fs.lookup f = some v ∧ Q v H1
def sFld (K : PySem.W.Frag) (ta tv : TE) (f : Str) : TS := fun D σ H => tv σ H fun y H1 => ta σ H1 fun x H2 => ∃ a C dx fs, x = .ref a ∧ H2 a = some (.ins C dx fs) ∧ Cls K C ∧ NoAttr K C f ∧ fs.length < 1000 ∧
  D.nx σ (upd H2 a (.ins C dx (putF f y fs)))
def InOp (X : Cx) (op : Operator) (rd : V → V → Hp → VK → Prop) : Prop :=
  ∀ (pins : List (Addr × Obj)) (s : Shared) (σ : St) (H : Hp) (x y : V) (u v : Value) (Q : VK), Inv X pins σ H s → RelV x u → RelV y v → rd x y H Q → wpAny (model X.prog X.w) X.A (inplaceOp op u v) (EP X pins σ Q) X.xe s
def sFldAug (K : PySem.W.Frag) (ta tv : TE) (rd : V → V → Hp → VK → Prop) (f : Str) : TS := fun D σ H => ta σ H fun x H1 => ∃ a C dx fs v, x = .ref a ∧ H1 a = some (.ins C dx fs) ∧ Cls K C ∧ NoAttr K C f ∧ fs.lookup f = some v ∧
  tv σ H1 fun y H2 => rd v y H2 fun z H3 => ∃ dx' fs', H3 a = some (.ins C dx' fs') ∧ fs'.length < 1000 ∧ D.nx σ (upd H3 a (.ins C dx' (putF f z fs')))
section
variable {X : Cx} {o e value : Expr} {f : Str} {pos pos' tpos : Pos} {ta tv : TE}
theorem pe_fld (he : PE X e ta) (hb : attributeBase e f X.env (eval e X.env) = eval e X.env) : PE X (.Attribute e f pos) (tFld X.K ta f) := by
  intro pins s σ H Q I h
  refine attr_of hb (thn (he pins s σ H _ I h) fun u s1 ⟨x, H1, I1, rx, a, C, dx, fs, v, ex, ea, c, n, l, q⟩ => ?_)
  subst ex
  obtain rfl : u = Value.ref a := rx
  exact getattr_ok I1 ea c n l fun u' s2 I2 ru => ⟨v, H1, I2, ru, q⟩
theorem ps_fld (ha : PE X o ta) (hv : PE X value tv) (hs : swapsWith value (some (.Attribute o f pos')) pos.line X.env = pure false) : PS X (.Assign [.Attribute o f pos'] value pos) (sFld X.K ta tv f) := by
  intro pins s σ H D I h
  refine plainObj_wpAny_Assign_Attribute (thn (hv pins s σ H _ I h) fun u s1 ⟨y, H1, I1, ry, q⟩ => thn (ha pins s1 σ H1 _ I1 q) fun ov s2 ⟨x, H2, I2, rx, a, C, dx, fs, ex, ea, c, n, l, q2⟩ => ?_) hs
  subst ex
  obtain rfl : ov = Value.ref a := rx
  exact setattr_ok I2 ea c n l ry fun s3 I3 => ⟨σ, _, I3, q2⟩
theorem ps_fldaug {op : Operator} {rd : V → V → Hp → VK → Prop} (ha : PE X o ta) (hv : PE X value tv) (hop : InOp X op rd) : PS X (.AugAssign (.Attribute o f tpos) op value pos) (sFldAug X.K ta tv rd f) := by
  intro pins s σ H D I h
  refine wpAny_AugAssign_AttributeAny (thn (ha pins s σ H _ I h) fun ov s1 ⟨x, H1, I1, rx, a, C, dx, fs, v, ex, ea, c, n, l, q⟩ => ?_)
  subst ex
  obtain rfl : ov = Value.ref a := rx
  refine getattr_ok I1 ea c n l fun u s2 I2 ru => thn (hv pins s2 σ H1 _ I2 q) fun w3 s3 ⟨y, H2, I3, ry, q3⟩ => thn (hop pins s3 σ H2 v y u w3 _ I3 ru ry q3) fun w4 s4 ⟨z, H3, I4, rz, dx', fs', ea', l', q4⟩ => ?_
  exact setattr_ok I4 ea' c n l' rz fun s5 I5 => ⟨σ, _, I5, q4⟩
def rAdd : V → V → Hp → VK → Prop := fun x y H Q => ∃ i j, x = .int i ∧ y = .int j ∧ Q (.int (i + j)) H
def rSub : V → V → Hp → VK → Prop := fun x y H Q => ∃ i j, x = .int i ∧ y = .int j ∧ Q (.int (i - j)) H
theorem in_add : InOp X .Add rAdd := by
  rintro pins s σ H x y u v Q I rx ry ⟨i, j, rfl, rfl, q⟩
  obtain ⟨t, rfl⟩ := (show ∃ t, u = Value.int i t from rx)
  obtain ⟨t', rfl⟩ := (show ∃ t', v = Value.int j t' from ry)
  exact PyProof.Rows.iadd_int ⟨.int (i + j), H, I.tok _, ⟨_, rfl⟩, q⟩
end
section
variable {X : Cx} {pins : List (Addr × Obj)} {σ : St} {H : Hp} {s : Shared} {A : Around} {E : Value → Shared → Prop} {Q : Value → Shared → Prop} {c : Value} {b : Bool}
end
end L2
namespace L2
open PySem PySem.Spec PyProof.Rows
structure Room (k : Nat) (A : Around) : Prop where
  hd : A.handled = none
  dp : A.depth + 3 * k + 5 < recursionLimit
  un : A.units + 16 * k + 200 < cLine
theorem Room.mono {j k : Nat} {A : Around} (r : Room k A) (h : j ≤ k) : Room j A := ⟨r.hd, by have := r.dp; omega, by have := r.un; omega⟩
theorem Room.deeper {k : Nat} {A : Around} (r : Room (k + 1) A) (env : Env) : Room k (A.deeper env) :=
  ⟨r.hd, by have := r.dp; show A.depth + 1 + 3 * k + 5 < _; omega, by have := r.un; show A.units + 3 + 16 * k + 200 < _; omega⟩
theorem Room.in1 {k : Nat} {A : Around} (r : Room (k + 1) A) : Room k A.in1 :=
  ⟨r.hd, by have := r.dp; show A.depth + 3 * k + 5 < _; omega, by have := r.un; show A.units + 1 + 16 * k + 200 < _; omega⟩
theorem make_depth {A : Around} {C : Addr} {us : List Value} {kw : List (Str × Value)} : (A.under (.builtin "type.__call__" ⟨.ref C :: us, kw⟩)).depth = A.depth + 1 := by
  first | rfl | simp [Around.under, Code.weight, Code.isCreation, Code.isGuard, Code.isCaller, Code.frames, Code.isFrame, guardIds]
theorem make_units {A : Around} {C : Addr} {us : List Value} {kw : List (Str × Value)} : (A.under (.builtin "type.__call__" ⟨.ref C :: us, kw⟩)).units = A.units + 1 := by
  first | rfl | simp [Around.under, Code.cUnits, Code.frames, Code.isFrame]
theorem Room.make {k : Nat} {A : Around} (r : Room (k + 1) A) (C : Addr) (us : List Value) (kw : List (Str × Value)) : Room k (A.under (.builtin "type.__call__" ⟨.ref C :: us, kw⟩)) :=
  ⟨r.hd, by have := r.dp; rw [make_depth]; omega, by have := r.un; rw [make_units]; omega⟩
theorem Room.depth {k : Nat} {A : Around} (r : Room k A) : A.depth < recursionLimit := by have := r.dp; omega
theorem Room.units {k : Nat} {A : Around} (r : Room k A) : A.units + 64 < cLine := by have := r.un; omega
def tNil : TA := fun _ H Q => Q [] H
def tCons (ta : TE) (tr : TA) : TA := fun σ H Q => ta σ H fun x H1 => tr σ H1 fun xs H2 => Q (x :: xs) H2
section
variable {X : Cx} {e : Expr} {es : List Expr} {te : TE} {t : TA} {pos : Pos}
theorem pa_nil : PA X [] tNil := fun _ _ _ _ H Q I h => Calls.spliced_nil ⟨[], H, I, .nil, h⟩
theorem pa_cons (ha : PE X e te) (hr : PA X es t) (hs : starEach (e :: es) X.env = (false, eval e X.env) :: starEach es X.env := by rfl) : PA X (e :: es) (tCons te t) := by
  intro pos pins s σ H Q I h
  rw [hs]
  show wpAny _ _ (spliced ((false, eval e X.env) :: backTo pos (starEach es X.env))) _ _ s
  refine Calls.spliced_cons (thn (ha pins s σ H _ I h) fun u s1 ⟨x, H1, I1, r1, q1⟩ => ?_)
  exact thn (hr pos pins s1 σ H1 _ I1 q1) fun us s2 ⟨xs, H2, I2, r2, q2⟩ => ⟨x :: xs, H2, I2, .cons r1 r2, q2⟩
def tTup (t : TA) : TE := fun σ H Q => t σ H fun xs H1 => xs.length ≤ sizeLine ∧ ∀ p, H1 p = none → Q (.ref p) (upd H1 p (.tup xs))
def tLst (t : TA) : TE := fun σ H Q => t σ H fun xs H1 => xs.length ≤ sizeLine ∧ ∀ p, H1 p = none → Q (.ref p) (upd H1 p (.lst xs))
theorem pe_tup {x1} (h : PA X es t) : PE X (.Tuple es x1 pos) (tTup t) := by
  intro pins s σ H Q I hq
  refine wpAny_Tuple_spliced (thn (h pos pins s σ H _ I hq) fun us s1 ⟨xs, H1, I1, r, z, q⟩ => ⟨by rw [← r.length]; exact z, ?_⟩)
  have hf : H1 s1.heap.objs.size = none := I1.hok.fresh (Nat.le_refl _)
  refine ⟨.ref s1.heap.objs.size, upd H1 s1.heap.objs.size (.tup xs), I1.laid (t' := s1.toks) (fun b u e => Heap.get?_push_of_some _ e) (Nat.le_refl _) ?_, rfl, q _ hf⟩
  exact ⟨z, us, r, ⟨_, Heap.get?_push_size _ rfl, rfl, _, rfl⟩⟩
theorem pe_lst (h : PA X es t) : PE X (.List es pos) (tLst t) := by
  intro pins s σ H Q I hq
  refine wpAny_List_spliced (thn (h pos pins s σ H _ I hq) fun us s1 ⟨xs, H1, I1, r, z, q⟩ => ⟨by rw [← r.length]; exact z, ?_⟩)
  have hf : H1 s1.heap.objs.size = none := I1.hok.fresh (Nat.le_refl _)
  refine ⟨.ref s1.heap.objs.size, upd H1 s1.heap.objs.size (.lst xs), I1.laid (t' := s1.toks) (fun b u e => Heap.get?_push_of_some _ e) (Nat.le_refl _) ?_, rfl, q _ hf⟩
  exact ⟨z, us, 0, r, Heap.get?_push_size _ rfl⟩
end
abbrev Sp := List V → Hp → VK → XK → Prop
abbrev CXT := List Env → Hp → Shared → XK → Value → Shared → Prop
structure Env0 (P : Program) (w : World) (K : PySem.W.Frag) (mg : Str → Option Value) (base : Heap) (A : Around) (outer : List Env) (s : Shared) (H : Hp) : Prop where
  frames : A.frames = some outer
  mod : Mod K mg base
  bs : ∀ b o, base.get? b = some o → s.heap.get? b = some o ∧ H b = none
  bsz : base.objs.size ≤ s.heap.objs.size
  funs : s.heap.FunFrames base outer
  frf : ∀ b ∈ frs outer, H b = none
  hok : HOk P w H s.heap
  bare : AllBare s.gens
def CE (outer : List Env) (P : Program) (w : World) (H : Hp) (s : Shared) (Q : VK) (u : Value) (s' : Shared) : Prop :=
  ∃ v H', s'.os = s.os ∧ AllBare s'.gens ∧ Un (frs outer) [] H H' s.heap s'.heap ∧ HOk P w H' s'.heap ∧ RelV v u ∧ Q v H'
def CR (CX : CXT) (outer : List Env) (P : Program) (w : World) (H : Hp) (s : Shared) (Q : VK) (E : XK) (r : Result) (s' : Shared) : Prop :=
  match r with
  | .ok (.ret u) => CE outer P w H s Q u s'
  | .ok _ => False
  | .error e => CX outer H s E e s'
structure FnOk (P : Program) (w : World) (K : PySem.W.Frag) (mg : Str → Option Value) (base : Heap) (CX : CXT) (k : Nat) (f : Addr) (fd : FuncData) (ps : List Str) (sp : Sp) : Prop where
  len : ∀ vs H Q E, sp vs H Q E → vs.length = ps.length
  run : ∀ (A : Around) (outer : List Env) (s : Shared) (H : Hp) (args : Args) (us : List Value) (vs : List V) (Q : VK) (E : XK), Room k A → Env0 P w K mg base A outer s H → BindsTo s fd args (ps.zip us) → Vals vs us → sp vs H Q E →
    codeAny (model P w) A (.call (.ref f) args) (CR CX outer P w H s Q E) s
theorem FnOk.mono {P : Program} {w : World} {K : PySem.W.Frag} {mg : Str → Option Value} {base : Heap} {CX : CXT} {j k : Nat} {f : Addr} {fd : FuncData} {ps : List Str} {sp : Sp} (F : FnOk P w K mg base CX j f fd ps sp) (h : j ≤ k) :
    FnOk P w K mg base CX k f fd ps sp := ⟨F.len, fun A outer s H args us vs Q E hr => F.run A outer s H args us vs Q E (hr.mono h)⟩
theorem Env0.make {P : Program} {w : World} {K : PySem.W.Frag} {mg : Str → Option Value} {base : Heap} {A : Around} {outer : List Env} {s : Shared} {H : Hp} (e : Env0 P w K mg base A outer s H) (C : Addr) (us : List Value) (kw : List (Str × Value)) :
    Env0 P w K mg base (A.under (.builtin "type.__call__" ⟨.ref C :: us, kw⟩)) outer s H := ⟨by first | exact e.frames | (simpa [Around.under, Code.envs, Code.isFrame, pushEnvs] using e.frames), e.mod, e.bs, e.bsz, e.funs, e.frf, e.hok, e.bare⟩
theorem Env0.in1 {P : Program} {w : World} {K : PySem.W.Frag} {mg : Str → Option Value} {base : Heap} {A : Around} {outer : List Env} {s : Shared} {H : Hp} (e : Env0 P w K mg base A outer s H) :
    Env0 P w K mg base A.in1 outer s H := ⟨e.frames, e.mod, e.bs, e.bsz, e.funs, e.frf, e.hok, e.bare⟩
section
variable {X : Cx} {pins : List (Addr × Obj)} {σ : St} {H : Hp} {s s' : Shared}
theorem Inv.env0 (I : Inv X pins σ H s) : Env0 X.prog X.w X.K X.mg X.base X.A X.stack s H :=
  ⟨I.ok.frames, I.ok.mod, I.bs, Nat.le_trans I.ok.bsz I.sz, I.stack, I.stkFree, I.hok, I.bare⟩
theorem Inv.after {Q : VK} {u : Value} (I : Inv X pins σ H s) (h : CE X.stack X.prog X.w H s Q u s') : EP X pins σ Q u s' := by
  obtain ⟨v, H', os, bare, un, hok, r, q⟩ := h
  obtain ⟨hh, g, d, t, os'⟩ := s'
  obtain rfl : os' = s.os := os
  exact ⟨v, H', I.call (h' := hh) (g' := g) (d' := d) (t' := t) (ch := []) un hok bare (fun b z => absurd z (by simp)), r, q⟩
end
def tCall (sp : Sp) (dvs : List V) (E : XK) (t : TA) : TE := fun σ H Q => t σ H fun vs H1 => sp (vs ++ dvs) H1 Q E
def tMeth (C : Addr) (m : Str) (sp : Sp) (dvs : List V) (E : XK) (ta : TE) (t : TA) : TE := fun σ H Q => ta σ H fun x H1 => ∃ a dx fs, x = .ref a ∧ H1 a = some (.ins C dx fs) ∧ fs.lookup m = none ∧
  t σ H1 fun vs H2 => sp (x :: (vs ++ dvs)) H2 Q E
def tMake (C : Addr) (sp : Sp) (dvs : List V) (E : XK) (t : TA) : TE := fun σ H Q => t σ H fun vs H1 => ∀ x dx, H1 x = none → H1 dx = none → dx ≠ x →
  sp (.ref x :: (vs ++ dvs)) (upd (upd H1 dx (.own x)) x (.ins C dx [])) (fun v H2 => v = .non ∧ Q (.ref x) H2) E
def Binds (K : PySem.W.Frag) (fd : FuncData) (ps : List Str) (ds : List Value) : Prop :=
  ∀ (s : Shared) (us : List Value), K.In s.heap → (us ++ ds).length = ps.length → BindsTo s fd ⟨us, []⟩ (ps.zip (us ++ ds))
theorem Binds.all {K : PySem.W.Frag} {fd : FuncData} {ps : List Str} (h : ∀ us : List Value, us.length = ps.length → bindArgs fd ⟨us, []⟩ = pure (ps.zip us)) : Binds K fd ps [] := fun s us _ hl => by
  rw [List.append_nil] at hl ⊢
  exact .of_eq (h us hl)
def Passes (CX : CXT) (X : Cx) (E : XK) : Prop := ∀ (pins : List (Addr × Obj)) (σ : St) (H : Hp) (s : Shared) (e : Value) (s' : Shared), Inv X pins σ H s → CX X.stack H s E e s' → X.xe e s'
section
variable {X : Cx} {CX : CXT} {k : Nat} {f C : Addr} {fd : FuncData} {ps : List Str} {sp : Sp} {dvs : List V} {ds : List Value} {E : XK} {x m : Str} {p pos apos : Pos} {e o : Expr} {es : List Expr} {ta : TE} {t : TA}
theorem run_fn {pins : List (Addr × Obj)} {σ : St} {H : Hp} {s : Shared} {Q : VK} {us : List Value} {vs : List V} (F : FnOk X.prog X.w X.K X.mg X.base CX k f fd ps sp) (hr : Room k X.A) (hb : Binds X.K fd ps ds) (hd : Vals dvs ds) (hx : Passes CX X E)
    (I : Inv X pins σ H s) (r : Vals vs us) (h : sp (vs ++ dvs) H Q E) : wpAny (model X.prog X.w) X.A (call (.ref f) us) (EP X pins σ Q) X.xe s := by
  have r2 : Vals (vs ++ dvs) (us ++ ds) := r.append hd
  have hl : (us ++ ds).length = ps.length := by rw [← r2.length]; exact F.len _ _ _ _ h
  refine wpAny_call (codeAny_mono (F.run X.A X.stack s H ⟨us, []⟩ (us ++ ds) (vs ++ dvs) Q E hr I.env0 (hb s us I.kIn hl) r2 h) fun r s' hq => ?_)
  cases r with
  | error e => exact hx pins σ H s e s' I hq
  | ok fl =>
    cases fl with
    | ret u => exact I.after hq
    | next => exact False.elim hq
    | brk => exact False.elim hq
    | cont => exact False.elim hq
theorem pe_call (F : FnOk X.prog X.w X.K X.mg X.base CX k f fd ps sp) (hr : Room k X.A) (hg : Gl X x) (hm : X.mg x = some (.ref f)) (hk : PySem.W.keepIn X.K (.ref f) = true) (hb : Binds X.K fd ps ds) (hd : Vals dvs ds) (hx : Passes CX X E)
    (ha : PA X (e :: es) t) (hdb : (x == ("__debug__" : Str)) = false := by decide) (he : starEach (e :: es) X.env = (false, eval e X.env) :: starEach es X.env := by rfl) (hpl : (backTo pos (starEach es X.env)).any (·.1) = false := by rfl) :
    PE X (.Call (.Name x p) (e :: es) [] pos) (tCall sp dvs E t) := by
  intro pins s σ H Q I h
  refine wpAny_Call_Name_kw (ld_glob I hg hm ?_ hdb)
  refine PySem.W.callWith_K (h₀ := X.base) I.ok.mod.kin hk (thn (ha pos pins s σ H _ I h) fun us s1 ⟨vs, H1, I1, r, q⟩ => ⟨I1.kIn, ?_⟩) he hpl
  exact run_fn F hr hb hd hx I1 r q
theorem pe_call0 (F : FnOk X.prog X.w X.K X.mg X.base CX k f fd ps sp) (hr : Room k X.A) (hg : Gl X x) (hm : X.mg x = some (.ref f)) (hk : PySem.W.keepIn X.K (.ref f) = true) (hb : Binds X.K fd ps ds) (hd : Vals dvs ds) (hx : Passes CX X E)
    (hdb : (x == ("__debug__" : Str)) = false := by decide) : PE X (.Call (.Name x p) [] [] pos) (tCall sp dvs E tNil) := by
  intro pins s σ H Q I h
  refine wpAny_Call_Name_kw (ld_glob I hg hm ?_ hdb)
  exact PySem.W.callWith_K0 I.kIn hk (run_fn (us := []) F hr hb hd hx I .nil h)
theorem pe_meth {pl : Sem Bool} (he : PE X o ta) (c : Cls X.K C) (hm : Meth X.K C m f) (F : FnOk X.prog X.w X.K X.mg X.base CX k f fd ps sp) (hr : Room k X.A) (hb : Binds X.K fd ps ds) (hd : Vals dvs ds) (hx : Passes CX X E) (ha : PA X (e :: es) t)
    (hst : starEach (e :: es) X.env = (false, eval e X.env) :: starEach es X.env := by rfl) (hpl : (backTo pos (starEach es X.env)).any (·.1) = false := by rfl)
    (ht : eval (.Call (.Attribute o m apos) (e :: es) [] pos) X.env = (do
      let ov ← eval o X.env
      standAt apos.atName
      let (f, first) ← holding [ov] (getMethod ov m pl)
      callWith pos f first (backTo pos (starEach (e :: es) X.env)) (backToKw pos (keywordEach [] X.env))) := by rfl) :
    PE X (.Call (.Attribute o m apos) (e :: es) [] pos) (tMeth C m sp dvs E ta t) := by
  intro pins s σ H Q I h
  refine PySem.W.methodCall_KW (pl := pl) (thn (he pins s σ H _ I h) fun u s1 ⟨x, H1, I1, rx, a, dx, fs, ex, ea, l, q⟩ => ?_) ht
  subst ex
  obtain rfl : u = Value.ref a := rx
  refine getmeth_ok I1 ea c hm l ?_
  refine PySem.W.callWith_K (first := [.ref a]) (h₀ := X.base) I.ok.mod.kin hm.kp (thn (ha pos pins s1 σ H1 _ I1 q) fun us s2 ⟨vs, H2, I2, r, q2⟩ => ⟨I2.kIn, ?_⟩) hst hpl
  exact run_fn (us := .ref a :: us) (vs := .ref a :: vs) F hr hb hd hx I2 (.cons rfl r) q2
theorem pe_meth0 {pl : Sem Bool} (he : PE X o ta) (c : Cls X.K C) (hm : Meth X.K C m f) (F : FnOk X.prog X.w X.K X.mg X.base CX k f fd ps sp) (hr : Room k X.A) (hb : Binds X.K fd ps ds) (hd : Vals dvs ds) (hx : Passes CX X E)
    (ht : eval (.Call (.Attribute o m apos) [] [] pos) X.env = (do
      let ov ← eval o X.env
      standAt apos.atName
      let (f, first) ← holding [ov] (getMethod ov m pl)
      callWith pos f first (backTo pos (starEach [] X.env)) (backToKw pos (keywordEach [] X.env))) := by rfl) :
    PE X (.Call (.Attribute o m apos) [] [] pos) (tMeth C m sp dvs E ta tNil) := by
  intro pins s σ H Q I h
  refine PySem.W.methodCall_KW (pl := pl) (thn (he pins s σ H _ I h) fun u s1 ⟨x, H1, I1, rx, a, dx, fs, ex, ea, l, q⟩ => ?_) ht
  subst ex
  obtain rfl : u = Value.ref a := rx
  refine getmeth_ok I1 ea c hm l ?_
  exact PySem.W.callWith_K0 (first := [.ref a]) I1.kIn hm.kp (run_fn (us := [.ref a]) (vs := [.ref a]) F hr hb hd hx I1 (.cons rfl .nil) q)
structure Mk (K : PySem.W.Frag) (C f : Addr) : Prop where
  makes : PySem.W.makesIn K C = true
  init : PySem.W.findIn K (.ref C) "__init__" = some (some (.ref f))
  fn : PySem.W.isFn K (.ref f) = true
  kp : PySem.W.keepIn K (.ref C) = true
theorem run_make {pins : List (Addr × Obj)} {σ : St} {H : Hp} {s : Shared} {Q : VK} {us : List Value} {vs : List V} (M : Mk X.K C f) (F : FnOk X.prog X.w X.K X.mg X.base CX k f fd ps sp) (hr : Room (k + 1) X.A) (hb : Binds X.K fd ps ds) (hd : Vals dvs ds)
    (hx : Passes CX X E) (I : Inv X pins σ H s) (r : Vals vs us)
    (h : ∀ x dx, H x = none → H dx = none → dx ≠ x → sp (.ref x :: (vs ++ dvs)) (upd (upd H dx (.own x)) x (.ins C dx [])) (fun v H2 => v = .non ∧ Q (.ref x) H2) E) :
    wpAny (model X.prog X.w) X.A (call (.ref C) us) (EP X pins σ Q) X.xe s := by
  have hq := h (s.heap.objs.size + 1) s.heap.objs.size (I.hok.fresh (Nat.le_succ _)) (I.hok.fresh (Nat.le_refl _)) (Nat.ne_of_lt (Nat.lt_succ_self _))
  have I2 := Inv.made (C := C) I
  have r2 : Vals (V.ref (s.heap.objs.size + 1) :: (vs ++ dvs)) (Value.ref (s.heap.objs.size + 1) :: (us ++ ds)) := .cons rfl (r.append hd)
  have hl : (Value.ref (s.heap.objs.size + 1) :: us ++ ds).length = ps.length := by
    have e := r2.length
    rw [F.len _ _ _ _ hq] at e
    exact e.symm
  refine wpAny_call (make_map (f := f) I.kIn M.makes M.init (beq_iff_eq.mp M.fn) (codeAny_mono (F.run _ X.stack _ _ ⟨Value.ref (s.heap.objs.size + 1) :: us, []⟩ (Value.ref (s.heap.objs.size + 1) :: (us ++ ds)) _ _ E (hr.make C us [])
    (I2.env0.make C us []) (hb _ (Value.ref (s.heap.objs.size + 1) :: us) I2.kIn hl) r2 hq) fun r s' hq' => ?_))
  cases r with
  | error e => exact hx pins σ _ _ e s' I2 hq'
  | ok fl =>
    cases fl with
    | ret u =>
      obtain ⟨v, H', I3, rv, ev, q3⟩ := I2.after hq'
      subst ev
      exact ⟨rv, ⟨V.ref (s.heap.objs.size + 1), H', I3, rfl, q3⟩⟩
    | next => exact False.elim hq'
    | brk => exact False.elim hq'
    | cont => exact False.elim hq'
theorem pe_make (M : Mk X.K C f) (F : FnOk X.prog X.w X.K X.mg X.base CX k f fd ps sp) (hr : Room (k + 1) X.A) (hg : Gl X x) (hm : X.mg x = some (.ref C)) (hb : Binds X.K fd ps ds) (hd : Vals dvs ds) (hx : Passes CX X E)
    (ha : PA X (e :: es) t) (hdb : (x == ("__debug__" : Str)) = false := by decide) (he : starEach (e :: es) X.env = (false, eval e X.env) :: starEach es X.env := by rfl) (hpl : (backTo pos (starEach es X.env)).any (·.1) = false := by rfl) :
    PE X (.Call (.Name x p) (e :: es) [] pos) (tMake C sp dvs E t) := by
  intro pins s σ H Q I h
  refine wpAny_Call_Name_kw (ld_glob I hg hm ?_ hdb)
  refine PySem.W.callWith_K (h₀ := X.base) I.ok.mod.kin M.kp (thn (ha pos pins s σ H _ I h) fun us s1 ⟨vs, H1, I1, r, q⟩ => ⟨I1.kIn, ?_⟩) he hpl
  exact run_make M F hr hb hd hx I1 r q
theorem pe_make0 (M : Mk X.K C f) (F : FnOk X.prog X.w X.K X.mg X.base CX k f fd ps sp) (hr : Room (k + 1) X.A) (hg : Gl X x) (hm : X.mg x = some (.ref C)) (hb : Binds X.K fd ps ds) (hd : Vals dvs ds) (hx : Passes CX X E)
    (hdb : (x == ("__debug__" : Str)) = false := by decide) : PE X (.Call (.Name x p) [] [] pos) (tMake C sp dvs E tNil) := by
  intro pins s σ H Q I h
  refine wpAny_Call_Name_kw (ld_glob I hg hm ?_ hdb)
  exact PySem.W.callWith_K0 I.kIn M.kp (run_make (us := []) M F hr hb hd hx I .nil h)
end
section
variable {X : Cx} {CX : CXT} {k : Nat} {f C : Addr} {fd : FuncData} {ps ks : List Str} {sp : Sp} {E : XK} {x m : Str} {p pos apos kpos : Pos} {e o : Expr} {es : List Expr} {kws : List Keyword} {te ta : TE} {t tk : TA} {nm : Option Str}
variable {g : List Value → List Value → List Value} {gV : List V → List V → List V}
end
structure FnScope (N P : List Str) (sc : Scope) : Prop where
  kind : sc.kind = .function
  co : sc.isCoroutine = false
  gen : sc.isGenerator = false
  nd : N.Nodup
  pre : N.take P.length = P
  par : ∀ x ∈ P, sc.names.lookup x = some .local ∨ sc.names.lookup x = some .cell
  nofree : ∀ y ∈ sc.names, y.2 ≠ .free
theorem bindL_out {kindOf : Str → Option NameKind} {x : Str} : ∀ {binds : List (Str × Value)} {m : Str → Option Value}, (∀ v, (x, v) ∉ binds) → bindL kindOf binds m x = m x
  | [], _, _ => rfl
  | (n, v) :: r, m, h => by
    unfold bindL
    rw [bindL_out fun w hw => h w (List.mem_cons_of_mem _ hw)]
    split
    · have : x ≠ n := by rintro rfl; exact h v List.mem_cons_self
      simp [this]
    · rfl
theorem bindC_out {kindOf : Str → Option NameKind} {x : Str} : ∀ {binds : List (Str × Value)} {m : Str → Option Value}, (∀ v, (x, v) ∉ binds) → bindC kindOf binds m x = m x
  | [], _, _ => rfl
  | (n, v) :: r, m, h => by
    unfold bindC
    rw [bindC_out fun w hw => h w (List.mem_cons_of_mem _ hw)]
    split
    · rfl
    · have : x ≠ n := by rintro rfl; exact h v List.mem_cons_self
      simp [this]
theorem bindL_get {kindOf : Str → Option NameKind} {x : Str} {v : Value} : ∀ {P : List Str} {vs : List Value} {i : Nat} {m : Str → Option Value}, P.Nodup → P[i]? = some x → vs[i]? = some v → kindOf x = some .local →
    bindL kindOf (P.zip vs) m x = some v
  | [], _, _, _, _, h, _, _ => by simp at h
  | _ :: _, [], _, _, _, _, h, _ => by simp at h
  | p :: P, w :: vs, 0, m, nd, h1, h2, hk => by
    simp at h1 h2; subst h1; subst h2
    show bindL kindOf ((p, w) :: P.zip vs) m p = _
    unfold bindL
    rw [bindL_out fun v hv => (List.nodup_cons.mp nd).1 (List.of_mem_zip hv).1, if_pos hk]
    simp
  | p :: P, w :: vs, i + 1, m, nd, h1, h2, hk => by
    show bindL kindOf ((p, w) :: P.zip vs) m x = _
    unfold bindL
    exact bindL_get (i := i) (List.nodup_cons.mp nd).2 (by simpa using h1) (by simpa using h2) hk
theorem bindC_get {kindOf : Str → Option NameKind} {x : Str} {v : Value} : ∀ {P : List Str} {vs : List Value} {i : Nat} {m : Str → Option Value}, P.Nodup → P[i]? = some x → vs[i]? = some v → kindOf x ≠ some .local →
    bindC kindOf (P.zip vs) m x = some v
  | [], _, _, _, _, h, _, _ => by simp at h
  | _ :: _, [], _, _, _, _, h, _ => by simp at h
  | p :: P, w :: vs, 0, m, nd, h1, h2, hk => by
    simp at h1 h2; subst h1; subst h2
    show bindC kindOf ((p, w) :: P.zip vs) m p = _
    unfold bindC
    rw [bindC_out fun v hv => (List.nodup_cons.mp nd).1 (List.of_mem_zip hv).1, if_neg hk]
    simp
  | p :: P, w :: vs, i + 1, m, nd, h1, h2, hk => by
    show bindC kindOf ((p, w) :: P.zip vs) m x = _
    unfold bindC
    exact bindC_get (i := i) (List.nodup_cons.mp nd).2 (by simpa using h1) (by simpa using h2) hk
def start (N : List Str) (vs : List V) : St := vs.map some ++ List.replicate (N.length - vs.length) none
def cxOf (CX : CXT) (P : Program) (w : World) (K : PySem.W.Frag) (mg : Str → Option Value) (base : Heap) (N : List Str) (qual : Str) (scope : Scope) (f : Addr) (cd : Value) (A : Around) (outer : List Env) (s : Shared) (H : Hp) (E : XK) : Cx where
  prog := P
  w := w
  K := K
  mg := mg
  base := base
  A := A.deeper (envOfC qual scope s.heap.objs.size f cd)
  N := N
  s_0 := s
  H_0 := H
  env := envOfC qual scope s.heap.objs.size f cd
  outer := outer
  stack := envOfC qual scope s.heap.objs.size f cd :: outer
  ex := []
  calm := true
  fn := fun _ => true
  pn := []
  xe := fun e s' => wpAny (model P w) (A.deeper (envOfC qual scope s.heap.objs.size f cd)) (leaving (envOfC qual scope s.heap.objs.size f cd) e) (fun _ s'' => CX outer H s E e s'') (fun e' s'' => CX outer H s E e' s'') s'
theorem cell_has {sc : Scope} {n : Nat} {x : Str} (h : sc.names.lookup x = some .cell) : ∃ c, (cellsFrom n sc.names []).lookup x = some c := by
  have q := PySem.W.cellsFrom_some sc.names n [] (.inl h)
  exact Option.isSome_iff_exists.mp q
theorem inv_start {CX : CXT} {P : Program} {w : World} {K : PySem.W.Frag} {mg : Str → Option Value} {base : Heap} {N ps : List Str} {qual : Str} {scope : Scope} {f : Addr} {cd : Value} {A : Around} {outer : List Env} {s s1 : Shared} {H : Hp} {E : XK} {us : List Value} {vs : List V}
    (S : FnScope N ps scope) (hd : A.handled = none) (e0 : Env0 P w K mg base A outer s H) (hl : vs.length = ps.length) (r : Vals vs us)
    (x : InCallC s s.heap.objs.size (bindL (envOfC qual scope s.heap.objs.size f cd).kindOf (ps.zip us) fun _ => none) (cellsFrom (s.heap.objs.size + 1) scope.names []) (bindC (envOfC qual scope s.heap.objs.size f cd).kindOf (ps.zip us) fun _ => none) s1) :
    Inv (cxOf CX P w K mg base N qual scope f cd A outer s H E) [] (start N vs) H s1 := by
  have hpl : ps.length ≤ N.length := by have := congrArg List.length S.pre; rw [List.length_take] at this; omega
  obtain ⟨h1, tk, rfl, hk⟩ := x.done
  have noA : ∀ b : Addr, b ∉ (cxOf CX P w K mg base N qual scope f cd A outer s H E).ex := fun b z => absurd (show b ∈ ([] : List Addr) from z) (by simp)
  refine ⟨⟨e0.mod, S.kind, rfl, rfl, Nat.le_refl _, fun y z c h1 h2 => ?_, fun y hy => ?_, fun y c _ h => ?_, fun _ => hd, Around.frames_deeper e0.frames, .inr ⟨rfl, rfl⟩, fun b z => absurd z (noA b), e0.bs, e0.bsz, fun b _ _ => noA b, fun b z => absurd z (noA b), e0.funs, e0.frf⟩,
    rfl, e0.bare, Un.kept hk, ⟨_, x.toInCall.ns, fun i y v h1 h2 h3 => ?_⟩, fun y c h => ⟨_, x.cell y c h⟩, e0.hok.fresh (Nat.le_refl _), fun y c h => ?_, fun p hp => absurd (show p ∈ ([] : List (Addr × Obj)) from hp) (by simp), e0.hok.kept hk, ?_⟩
  · exact name_of_addr x.apart (PySem.mem_of_lookup h1) (PySem.mem_of_lookup h2)
  · have hy : scope.names.lookup y = some .cell ∨ scope.names.lookup y = some .free := hy
    rcases hy with hy | hy
    · exact cell_has hy
    · exact absurd rfl (S.nofree _ (PySem.mem_of_lookup hy))
  · exact Nat.le_of_lt (x.above y c (PySem.mem_of_lookup h))
  · have hi : i < vs.length := by
      unfold start at h2
      by_cases hi : i < vs.length
      · exact hi
      · rw [List.getElem?_append_right (by simpa using hi)] at h2
        rw [List.getElem?_replicate] at h2
        split at h2 <;> cases h2
    have ha : vs[i]? = some v := by
      unfold start at h2
      rw [List.getElem?_append_left (by simpa using hi), List.getElem?_map] at h2
      cases e : vs[i]? with
      | none => rw [e] at h2; cases h2
      | some a => rw [e] at h2; cases h2; rfl
    obtain ⟨u, hu, rv⟩ := r.get ha
    have hp : ps[i]? = some y := by
      rw [← S.pre, List.getElem?_take_of_lt (by omega)]; exact h1
    have ndP : ps.Nodup := by rw [← S.pre]; exact S.nd.sublist (List.take_sublist _ _)
    refine ⟨u, rv, ?_⟩
    rcases S.par y (List.mem_of_getElem? hp) with k | k
    · exact .inl ⟨k, bindL_get ndP hp hu k⟩
    · obtain ⟨c, e⟩ := cell_has (n := s.heap.objs.size + 1) k
      refine .inr ⟨.inl k, c, e, ?_⟩
      have q := x.cell y c e
      rw [bindC_get ndP hp hu (by show scope.names.lookup y ≠ _; rw [k]; decide)] at q
      exact q
  · exact e0.hok.fresh (Nat.le_of_lt (x.above y c (PySem.mem_of_lookup h)))
  · unfold start
    show _ = N.length
    rw [List.length_append, List.length_map, List.length_replicate]
    omega
theorem fn_of {CX : CXT} {P : Program} {w : World} {K : PySem.W.Frag} {mg : Str → Option Value} {base : Heap} {k : Nat} {f : Addr} {name qual : Str} {params : Arguments} {body : List Stmt} {scope : Scope} {dV kV doc pm cdv ct oc : Value} {an od : Option Addr}
    {osl : Array (Option Value)} {N ps : List Str} {sp : Sp} (lk : K.lookup f = some ⟨oc, od, .func (PySem.W.fnOf name qual params body scope dV kV doc pm an cdv ct), osl⟩) (hcd : PySem.W.codeIn K cdv qual = true) (S : FnScope N ps scope)
    (len : ∀ vs H Q E, sp vs H Q E → vs.length = ps.length)
    (hbody : ∀ (A : Around) (outer : List Env) (s : Shared) (H : Hp) (vs : List V) (Q : VK) (E : XK), Room k (A.deeper (envOfC qual scope s.heap.objs.size f cdv)) → sp vs H Q E →
      ∃ t, PSs (cxOf CX P w K mg base N qual scope f cdv A outer s H E) body t ∧ t { nx := fun _ H' => Q .non H', rt := Q } (start N vs) H) :
    FnOk P w K mg base CX (k + 1) f (PySem.W.fnOf name qual params body scope dV kV doc pm an cdv ct) ps sp := by
  refine ⟨len, fun A outer s H args us vs Q E hr e0 hb r hsp => ?_⟩
  have hl := len _ _ _ _ hsp
  have KX : K.In s.heap := e0.mod.kin.keeps fun b o e => (e0.bs b o e).1
  have lim : s.heap.NoLimit := e0.mod.nolimit.keeps fun b o e => (e0.bs b o e).1
  have hkind : ∀ y ∈ ps.zip us, scope.names.lookup y.1 = some .local ∨ (scope.names.lookup y.1 = some .cell ∧ ((cellsFrom (s.heap.objs.size + 1) scope.names []).lookup y.1).isSome = true) := fun ⟨n, v⟩ hy => by
    rcases S.par n (List.of_mem_zip hy).1 with q | q
    · exact .inl q
    · exact .inr ⟨q, PySem.W.cellsFrom_some _ _ _ (.inl q)⟩
  refine codeAny_call_function hr.depth (KX _ _ lk) rfl S.co S.gen rfl (PySem.W.codeRec_of KX hcd) (hb _ _ _ _ ?_)
  refine wpAny_newFunctionEnv_cells S.kind hkind fun env he s1 x => ?_
  subst he
  refine ⟨lim.keeps x.toInCall.keep, codeAny_func ?_⟩
  obtain ⟨t, ht, hq⟩ := hbody A outer s H vs Q E (hr.deeper _) hsp
  have I : Inv (cxOf CX P w K mg base N qual scope f cdv A outer s H E) [] (start N vs) H s1 := inv_start S hr.hd e0 hl r x
  refine wpAny_mono (ht [] s1 (start N vs) H _ I hq) (fun fl s' hs => ?_) fun e s' hs => hs
  have fin : ∀ {σ' : St} {H' : Hp} {v : V} {u : Value}, Inv (cxOf CX P w K mg base N qual scope f cdv A outer s H E) [] σ' H' s' → RelV v u → Q v H' → CE outer P w H s Q u s' :=
    fun {σ' H' v u} J rv q => ⟨v, H', J.os, J.bare, J.base, J.hok, rv, q⟩
  cases fl with
  | ret u =>
    obtain ⟨v, σ', H', J, rv, q⟩ := hs
    exact fin J rv q
  | next =>
    obtain ⟨σ', H', J, q⟩ := hs
    exact fin (v := V.non) (u := Value.none) J rfl q
  | brk =>
    obtain ⟨_, _, _, q⟩ := hs
    exact False.elim q
  | cont =>
    obtain ⟨_, _, _, q⟩ := hs
    exact False.elim q
end L2
namespace L2
open PySem PySem.Spec PyProof.Rows
section
variable {X : Cx} {x : Str} {p pos : Pos} {e : Expr} {es : List Expr} {t : TA} {id T : String} {r : List V → Hp → VK → Prop}
def tCB (r : List V → Hp → VK → Prop) (t : TA) : TE := fun σ H Q => t σ H fun vs H1 => r vs H1 Q
theorem pe_callB (hc : CallR X (.builtin id) r) (hg : Gl X x) (hm : X.mg x = none) (hv : bootBuiltins x = some (.builtin id)) (ha : PA X (e :: es) t) (hn : x ≠ "__name__" := by decide) (hdb : (x == ("__debug__" : Str)) = false := by decide)
    (he : starEach (e :: es) X.env = (false, eval e X.env) :: starEach es X.env := by rfl) (hpl : (backTo pos (starEach es X.env)).any (·.1) = false := by rfl) : PE X (.Call (.Name x p) (e :: es) [] pos) (tCB r t) := by
  intro pins s σ H Q I h
  refine wpAny_Call_Name_kw (ld_blt I hg hm hv ?_ hn hdb)
  exact PyProof.Rows.callWith_builtin1 (thn (ha pos pins s σ H _ I h) fun us s1 ⟨vs, H1, I1, r1, q1⟩ => hc pins s1 σ H1 vs us Q I1 r1 q1) he hpl
end
end L2
namespace HT
open PySem PyProof.Rows
section
open PySem.SeqAt
open PySem.AutoSeq1 (wpAny_loadPart')
open PySem.MeetsSeq PySem.MeetsSeq2 PySem.MeetsSeq3
end
section
variable {prog : Program} {w : World} {A : Around} {E : Value → Shared → Prop} {s : Shared}
def sIx (n d : Nat) : Option Int → Nat
  | none => d
  | some v => if v < 0 then (v + (n : Int)).toNat else min v.toNat n
theorem sIx_nat (n d k : Nat) : sIx n d (some (k : Int)) = min k n := by
  show (if (k : Int) < 0 then ((k : Int) + (n : Int)).toNat else min (k : Int).toNat n) = min k n
  rw [if_neg (by omega), Int.toNat_natCast]
end
end HT
namespace L2
open PySem PySem.Spec PyProof.Rows
abbrev TO := St → Hp → (Option Int → Hp → Prop) → Prop
def PO (X : Cx) (e : Option Expr) (t : TO) : Prop :=
  ∀ (pins : List (Addr × Obj)) (s : Shared) (σ : St) (H : Hp) (Q : Option Int → Hp → Prop), Inv X pins σ H s → t σ H Q →
    wpAny (model X.prog X.w) X.A (evalPart e X.env) (fun u s' => ∃ o H', Inv X pins σ H' s' ∧ IsPart u o ∧ Q o H') X.xe s
def tNoPart : TO := fun _ H Q => Q none H
def tPart (t : TE) : TO := fun σ H Q => t σ H fun x H1 => ∃ i, x = .int i ∧ Q (some i) H1
theorem intsAre_of {ns : List Int} : ∀ {us : List Value}, Vals (ns.map V.int) us → IntsAre us ns := by
  induction ns with
  | nil => intro us r; rw [List.map_nil] at r; cases r; exact .nil
  | cons n ns ih =>
    intro us r
    rw [List.map_cons] at r
    cases r with
    | cons r1 r2 =>
      obtain ⟨t, e⟩ := r1
      subst e
      exact .cons n t (ih r2)
section
variable {X : Cx} {e : Expr} {te : TE} {lo hi : Option Expr} {tl th : TO} {pos p2 : Pos}
theorem po_none : PO X none tNoPart := by
  intro pins s σ H Q I h
  rw [evalPart_none]
  exact wpAny_pure ⟨none, H, I, .none, h⟩
theorem po_some (h : PE X e te) : PO X (some e) (tPart te) := by
  intro pins s σ H Q I hw
  rw [evalPart_some]
  refine thn (h pins s σ H _ I hw) fun u s1 ⟨x, H1, I1, r1, q1⟩ => ?_
  obtain ⟨i, rfl, q⟩ := q1
  obtain ⟨t, rfl⟩ := r1
  exact ⟨some i, H1, I1, .int i t, q⟩
def SlR (X : Cx) (r : V → Option Int → Option Int → Hp → VK → Prop) : Prop :=
  ∀ (pins : List (Addr × Obj)) (s : Shared) (σ : St) (H : Hp) (x : V) (v vl vu : Value) (lo hi : Option Int) (sl : Addr) (Q : VK), Inv X pins σ H s → RelV x v → s.heap.IsSliceOf sl vl vu .none → IsPart vl lo → IsPart vu hi → r x lo hi H Q →
    ∃ T id, typeLookup (.type T) "__getitem__" = pure (some (.builtin id)) ∧ s.TypeIs v T ∧ wpAny (model X.prog X.w) X.A (getItem v (.ref sl)) (EP X pins σ Q) X.xe s
theorem SlR.or {r r' : V → Option Int → Option Int → Hp → VK → Prop} (h : SlR X r) (h' : SlR X r') : SlR X (fun x lo hi H Q => r x lo hi H Q ∨ r' x lo hi H Q) := by
  intro pins s σ H x v vl vu lo hi sl Q I rx hs pl pu q
  rcases q with q | q
  · exact h pins s σ H x v vl vu lo hi sl Q I rx hs pl pu q
  · exact h' pins s σ H x v vl vu lo hi sl Q I rx hs pl pu q
def tSl (r : V → Option Int → Option Int → Hp → VK → Prop) (te : TE) (tl th : TO) : TE := fun σ H Q => te σ H fun x H1 => tl σ H1 fun l H2 => th σ H2 fun u H3 => r x l u H3 Q
theorem pe_slice {r : V → Option Int → Option Int → Hp → VK → Prop} (hr : SlR X r) (he : PE X e te) (hl : PO X lo tl) (hu : PO X hi th) : PE X (.Subscript e (.Slice lo hi none p2) pos) (tSl r te tl th) := by
  intro pins s σ H Q I h
  refine Subscript_ (thn (he pins s σ H _ I h) fun v s1 ⟨x, H1, I1, r1, q1⟩ => ?_)
  refine wpAny_Slice (thn (hl pins s1 σ H1 _ I1 q1) fun vl s2 ⟨l, H2, I2, pl, q2⟩ => thn (hu pins s2 σ H2 _ I2 q2) fun vu s3 ⟨u, H3, I3, pu, q3⟩ => ?_)
  rw [evalPart_none]
  refine wpAny_pure ?_
  have I4 : Inv X pins σ H3 { s3 with heap := s3.heap.push { cls := .type "slice", data := .fields #[vl, vu, .none] } } := I3.kept (t' := s3.toks) fun b ob q => Heap.get?_push_of_some _ q
  obtain ⟨T, id, hT, ht, hg⟩ := hr pins { s3 with heap := s3.heap.push { cls := .type "slice", data := .fields #[vl, vu, .none] } } σ H3 x v vl vu l u s3.heap.objs.size Q I4 r1 (Heap.IsSliceOf.new ..) pl pu q3
  show wpAny (model X.prog X.w) X.A (subscriptTail e (.Slice lo hi none p2) v (.ref s3.heap.objs.size)) (EP X pins σ Q) X.xe { s3 with heap := s3.heap.push { cls := .type "slice", data := .fields #[vl, vu, .none] } }
  exact tail_any (ops := [.ref s3.heap.objs.size, v]) ht hT hg (by with_unfolding_all rfl)
def cutV (xs : List V) (lo hi : Option Int) : List V := (xs.drop (HT.sIx xs.length 0 lo)).take (HT.sIx xs.length xs.length hi - HT.sIx xs.length 0 lo)
theorem cutV_length (xs : List V) (lo hi : Option Int) : (cutV xs lo hi).length ≤ xs.length := by
  unfold cutV
  rw [List.length_take, List.length_drop]
  omega
end
end L2
namespace L2
open PySem PySem.Spec PyProof.Rows
def ixN (n : Nat) (i : Int) : Option Nat := if 0 ≤ i then (if i < n then some i.toNat else none) else if -(n : Int) ≤ i then some (i + n).toNat else none
def atI {α : Type} (xs : List α) (i : Int) : Option α := (ixN xs.length i).bind fun j => xs[j]?
theorem ixN_seq {n : Nat} {i : Int} {j : Nat} (h : ixN n i = some j) : seqIndex? i n = some j ∧ j < n ∧ -(n : Int) ≤ i ∧ i < n := by
  unfold ixN at h
  by_cases h0 : 0 ≤ i
  · rw [if_pos h0] at h
    by_cases h1 : i < n
    · rw [if_pos h1] at h
      have e : i.toNat = j := Option.some.inj h
      exact ⟨by rw [seqIndex_of h0 h1, e], by omega, by omega, h1⟩
    · rw [if_neg h1] at h; cases h
  · rw [if_neg h0] at h
    by_cases h1 : -(n : Int) ≤ i
    · rw [if_pos h1] at h
      have e : (i + n).toNat = j := Option.some.inj h
      exact ⟨by rw [seqIndex_neg (by omega) h1, e], by omega, h1, by omega⟩
    · rw [if_neg h1] at h; cases h
theorem atI_get {α : Type} {xs : List α} {i : Int} {v : α} (h : atI xs i = some v) : ∃ j, seqIndex? i xs.length = some j ∧ xs[j]? = some v ∧ j < xs.length ∧ -(xs.length : Int) ≤ i ∧ i < xs.length := by
  unfold atI at h
  cases e : ixN xs.length i with
  | none => rw [e] at h; cases h
  | some j =>
    rw [e] at h
    obtain ⟨h1, h2, h3, h4⟩ := ixN_seq e
    exact ⟨j, h1, h, h2, h3, h4⟩
theorem atI_nat {α : Type} {xs : List α} {j : Nat} {v : α} (h : xs[j]? = some v) : atI xs (j : Int) = some v := by
  have hj : j < xs.length := (List.getElem?_eq_some_iff.mp h).1
  have e : ixN xs.length (j : Int) = some j := by
    unfold ixN
    rw [if_pos (by omega), if_pos (by omega)]; simp
  unfold atI; rw [e]; exact h
def PlainIx (b : Expr) : Prop := ∀ o i, subscripted b false o i = operate [o, i] (getItem o i)
def IxR (X : Cx) (r : R2) : Prop :=
  ∀ (value slice : Expr) (pins : List (Addr × Obj)) (s : Shared) (σ : St) (H : Hp) (x y : V) (v u : Value) (Q : VK), Inv X pins σ H s → RelV x v → RelV y u → r x y H Q →
    subscripted slice false v u = operate [v, u] (getItem v u) → wpAny (model X.prog X.w) X.A (subscriptTail value slice v u) (EP X pins σ Q) X.xe s
def MtR (X : Cx) (id : String) (r : V → List V → Hp → VK → Prop) : Prop :=
  ∀ (pins : List (Addr × Obj)) (s : Shared) (σ : St) (H : Hp) (x : V) (xs : List V) (v : Value) (us : List Value) (Q : VK), Inv X pins σ H s → RelV x v → Vals xs us → r x xs H Q →
    wpAny (model X.prog X.w) X.A (call (.builtin id) (v :: us)) (EP X pins σ Q) X.xe s
section
variable {X : Cx} {a b : Expr} {ta tb : TE} {pos : Pos}
theorem IxR.or {r r' : R2} (h : IxR X r) (h' : IxR X r') : IxR X (fun x y H Q => r x y H Q ∨ r' x y H Q) := by
  intro value slice pins s σ H x y v u Q I rx ry q hs
  rcases q with q | q
  · exact h value slice pins s σ H x y v u Q I rx ry q hs
  · exact h' value slice pins s σ H x y v u Q I rx ry q hs
theorem MtR.or {id : String} {r r' : V → List V → Hp → VK → Prop} (h : MtR X id r) (h' : MtR X id r') : MtR X id (fun x xs H Q => r x xs H Q ∨ r' x xs H Q) := by
  intro pins s σ H x xs v us Q I rx rs q
  rcases q with q | q
  · exact h pins s σ H x xs v us Q I rx rs q
  · exact h' pins s σ H x xs v us Q I rx rs q
theorem pe_ix {r : R2} (hr : IxR X r) (ha : PE X a ta) (hb : PE X b tb) (hs : PlainIx b) : PE X (.Subscript a b pos) (tOp r ta tb) := by
  intro pins s σ H Q I h
  exact Subscript_ (binT ha hb I h fun v u s2 x y H2 I2 rx ry q => hr a b pins s2 σ H2 x y v u Q I2 rx ry q (hs _ _))
def rIxL (K : PySem.W.Frag) : R2 := fun x y H Q => ∃ p xs i v, x = .ref p ∧ y = .int i ∧ SqL K H p xs ∧ atI xs i = some v ∧ Q v H
def rIxT (K : PySem.W.Frag) : R2 := fun x y H Q => ∃ p xs i v, x = .ref p ∧ y = .int i ∧ SqT K H p xs ∧ atI xs i = some v ∧ Q v H
theorem ix_list : IxR X (rIxL X.K) := by
  intro value slice pins s σ H x y v u Q I rx ry h hs
  obtain ⟨p, xs, i, z, rfl, rfl, hq, he, q⟩ := h
  cases rx
  obtain ⟨t, rfl⟩ := ry
  obtain ⟨its, r, pl, hz⟩ := I.list hq
  obtain ⟨j, h1, h2, h3, h4, h5⟩ := atI_get he
  obtain ⟨w, ew, rw'⟩ := r.get h2
  have hl := r.length
  have hn := line63
  have fin : EP X pins σ Q w s := ⟨z, H, I, rw', q⟩
  by_cases h0 : 0 ≤ i
  · have hj : i.toNat = j := by
      rw [seqIndex_of h0 h5] at h1
      exact Option.some.inj h1
    exact item_listR pl.isList h0 (by omega) (by rw [hj]; simpa using ew) fin hs
  · have hj : (i + (its.toArray.size : Int)).toNat = j := by
      rw [seqIndex_neg (by omega) h4] at h1
      rw [List.size_toArray, ← hl]
      exact Option.some.inj h1
    exact subscriptTail_builtinR (x := w) pl.isList.typeIs slot_list_getitem.lookup
      (wpAny_getItem_list_neg (Q := fun r s' => r = w ∧ EP X pins σ Q r s') pl.isList (by omega) (by rw [List.size_toArray] <;> omega) (by omega) (by rw [hj]; simpa using ew) ⟨rfl, fin⟩) hs
theorem ix_tup : IxR X (rIxT X.K) := by
  intro value slice pins s σ H x y v u Q I rx ry h hs
  obtain ⟨p, xs, i, z, rfl, rfl, hq, he, q⟩ := h
  cases rx
  obtain ⟨t, rfl⟩ := ry
  obtain ⟨its, r, pl, hz⟩ := I.tuple hq
  obtain ⟨j, h1, h2, h3, h4, h5⟩ := atI_get he
  obtain ⟨w, ew, rw'⟩ := r.get h2
  have hl := r.length
  have hn := line63
  have fin : EP X pins σ Q w s := ⟨z, H, I, rw', q⟩
  exact subscriptTail_builtinR (x := w) pl.typeIs slot_tuple_getitem.lookup
    (getItem_tuple (j := j) (Q := fun r s' => r = w ∧ EP X pins σ Q r s') pl (by omega) (by omega) (by rw [List.size_toArray, ← hl]; exact h1) (by simpa using ew) ⟨rfl, fin⟩) hs
theorem mapSeq_set (its : List Value) (n j : Nat) (u : Value) : Obj.mapSeq (·.setIfInBounds j u) { cls := .type "list", data := .seq its.toArray n } = { cls := .type "list", data := .seq (its.set j u).toArray n } := by
  simp [Obj.mapSeq]
theorem Inv.lst {pins : List (Addr × Obj)} {σ : St} {H : Hp} {s : Shared} {p : Addr} {xs : List V} (I : Inv X pins σ H s) (h : H p = some (.lst xs)) :
    ∃ (its : List Value) (n : Nat), Vals xs its ∧ s.heap.get? p = some { cls := .type "list", data := .seq its.toArray n } ∧ xs.length ≤ sizeLine := by
  obtain ⟨z, its, n, r, e⟩ := I.hok p _ h
  exact ⟨its, n, r, e, z⟩
theorem Inv.lstUpd {pins : List (Addr × Obj)} {σ : St} {H : Hp} {s : Shared} {p : Addr} {xs ys : List V} {its its' : List Value} {n n' : Nat} {f : Obj → Obj} (I : Inv X pins σ H s) (h : H p = some (.lst xs))
    (ho : s.heap.get? p = some { cls := .type "list", data := .seq its.toArray n }) (hf : f { cls := .type "list", data := .seq its.toArray n } = { cls := .type "list", data := .seq its'.toArray n' }) (r : Vals ys its') (hz : ys.length ≤ sizeLine) (t : Nat) :
    Inv X pins σ (upd H p (.lst ys)) { s with heap := s.heap.update p f, toks := t } := by
  have e : (s.heap.update p f).get? p = some { cls := .type "list", data := .seq its'.toArray n' } := by
    rw [Heap.get?_update_self f ho (by rw [hf] <;> rfl), hf]
  refine I.write (x := p) (e := p) (by rw [h]; trivial) (.inl rfl) (fun b u hb q => (Heap.get?_update_other _ _ (Ne.symm hb)).trans q) ⟨_, e⟩ ?_
  exact ⟨hz, its', n', r, e⟩
def rSetL : V → V → V → Hp → (Hp → Prop) → Prop := fun o i v H Q => ∃ p xs k j, o = .ref p ∧ i = .int k ∧ H p = some (.lst xs) ∧ ixN xs.length k = some j ∧ Q (upd H p (.lst (xs.set j v)))
theorem set_list : PSet X rSetL := by
  intro pins s σ H o i v ov iv u Q I ro ri rv h
  obtain ⟨p, xs, k, j, rfl, rfl, hp, hj, q⟩ := h
  cases ro
  obtain ⟨t, rfl⟩ := ri
  obtain ⟨its, n, r, ho, hz⟩ := I.lst hp
  obtain ⟨h1, h2, h3, h4⟩ := ixN_seq hj
  have hl := r.length
  have hn := line63
  have I' : Inv X pins σ (upd H p (.lst (xs.set j v))) { s with heap := s.heap.update p (Obj.mapSeq (·.setIfInBounds j u)) } :=
    I.lstUpd hp ho (mapSeq_set its n j u) (r.set rv j) (by rw [List.length_set]; exact hz) s.toks
  by_cases h0 : 0 ≤ k
  · have hk : k.toNat = j := by
      rw [seqIndex_of h0 h4] at h1
      exact Option.some.inj h1
    exact PySem.W.ki_setAt ho h0 (by omega) (by rw [List.size_toArray, ← hl]; exact h4) (by rw [hk]; exact ⟨_, I', q⟩)
  · have hk : (k + (its.toArray.size : Int)).toNat = j := by
      rw [seqIndex_neg (by omega) h3] at h1
      rw [List.size_toArray, ← hl]
      exact Option.some.inj h1
    exact PySem.W.ki_setBack ho (by omega) (by rw [List.size_toArray, ← hl]; exact h3) (by omega) (by rw [hk]; exact ⟨_, I', q⟩)
theorem slice_bounds (lo hi : Option Int) (n : Nat) : (sliceBounds lo hi none n).1 = ((HT.sIx n 0 lo : Nat) : Int) ∧ (sliceBounds lo hi none n).2.1 = ((HT.sIx n n hi : Nat) : Int) ∧ (sliceBounds lo hi none n).2.2 = 1 := by
  refine ⟨?_, ?_, rfl⟩
  · cases lo with
    | none => simp [sliceBounds, HT.sIx]
    | some i =>
      simp only [sliceBounds, HT.sIx, Option.getD_none, show (1 : Int) > 0 by decide, if_true]
      by_cases h : i < 0
      · simp only [h, if_true] <;> omega
      · simp only [h, if_false] <;> omega
  · cases hi with
    | none => simp [sliceBounds, HT.sIx]
    | some i =>
      simp only [sliceBounds, HT.sIx, Option.getD_none, show (1 : Int) > 0 by decide, if_true]
      by_cases h : i < 0
      · simp only [h, if_true] <;> omega
      · simp only [h, if_false] <;> omega
theorem slicePick_cut (its : List Value) (lo hi : Option Int) : slicePick its.toArray lo hi none = ((its.drop (HT.sIx its.length 0 lo)).take (HT.sIx its.length its.length hi - HT.sIx its.length 0 lo)).toArray := by
  obtain ⟨h1, h2, h3⟩ := slice_bounds lo hi its.toArray.size
  unfold slicePick
  rw [h1, h2, h3]
  simp only [sliceRange_one, pick_run, List.size_toArray] <;> rfl
def rSlL (K : PySem.W.Frag) : V → Option Int → Option Int → Hp → VK → Prop := fun x lo hi H Q => ∃ a xs, x = .ref a ∧ SqL K H a xs ∧ ∀ p, H p = none → Q (.ref p) (upd H p (.lst (cutV xs lo hi)))
theorem sl_list : SlR X (rSlL X.K) := by
  intro pins s σ H x v vl vu lo hi sl Q I rx hs pl pu h
  obtain ⟨a, xs, rfl, hx, q⟩ := h
  cases rx
  obtain ⟨its, r, ht, hz⟩ := I.list hx
  have hlen := r.length
  refine ⟨"list", _, slot_list_getitem.lookup, ht.isList.typeIs, ?_⟩
  refine wpAny_getItem_list_slice ht.isList hs pl pu .none (by simp) ?_ (by rw [List.size_toArray] <;> omega)
  rw [slicePick_cut, ← hlen]
  refine ⟨.ref s.heap.objs.size, _, I.laid (t' := s.toks) (o := .lst (cutV xs lo hi)) (fun b ob q => Heap.get?_push_of_some _ q) (Nat.le_refl _) ?_, rfl, q _ (I.hok.fresh (Nat.le_refl _))⟩
  exact ⟨Nat.le_trans (cutV_length xs lo hi) hz, _, 0, (r.drop (HT.sIx xs.length 0 lo)).take (HT.sIx xs.length xs.length hi - HT.sIx xs.length 0 lo), Heap.get?_push_size _ rfl⟩
def flatV : V → Bool
  | .non => true
  | .bl _ => true
  | .int _ => true
  | .str _ => true
  | _ => false
def eqV : V → V → Bool
  | .non, .non => true
  | .bl a, .bl b => a == b
  | .bl a, .int b => (if a then 1 else 0) == b
  | .int a, .bl b => a == (if b then 1 else 0)
  | .int a, .int b => a == b
  | .str a, .str b => a == b
  | _, _ => false
theorem eqAt_V {A : Around} {s : Shared} {y x : V} {u v : Value} (ry : RelV y u) (rx : RelV x v) (fy : flatV y = true) (fx : flatV x = true) : SeqAt.EqAt A s u v (eqV y x) := by
  cases y with
  | non =>
    cases ry
    cases x with
    | non => cases rx; exact SeqAt.EqAt.same _
    | bl b => cases rx; exact SeqAt.EqAt.none_bool b
    | int b => obtain ⟨t, rfl⟩ := rx; exact SeqAt.EqAt.none_int b t
    | str b => obtain ⟨t, rfl⟩ := rx; exact SeqAt.EqAt.none_str b t
    | _ => exact absurd (show false = true from fx) Bool.false_ne_true
  | bl a =>
    cases ry
    cases x with
    | non => cases rx; exact SeqAt.EqAt.bool_none a
    | bl b => cases rx; exact SeqAt.EqAt.bool_bool a b
    | int b => obtain ⟨t, rfl⟩ := rx; exact SeqAt.EqAt.bool_int a b t
    | str b => obtain ⟨t, rfl⟩ := rx; exact SeqAt.EqAt.bool_str a b t
    | _ => exact absurd (show false = true from fx) Bool.false_ne_true
  | int a =>
    obtain ⟨t', rfl⟩ := ry
    cases x with
    | non => cases rx; exact SeqAt.EqAt.int_none a t'
    | bl b => cases rx; exact SeqAt.EqAt.int_bool a t' b
    | int b => obtain ⟨t, rfl⟩ := rx; exact SeqAt.EqAt.int_int a t' b t
    | str b => obtain ⟨t, rfl⟩ := rx; exact SeqAt.EqAt.int_str a t' b t
    | _ => exact absurd (show false = true from fx) Bool.false_ne_true
  | str a =>
    obtain ⟨t', rfl⟩ := ry
    cases x with
    | non => cases rx; exact SeqAt.EqAt.str_none a t'
    | bl b => cases rx; exact SeqAt.EqAt.str_bool a t' b
    | int b => obtain ⟨t, rfl⟩ := rx; exact SeqAt.EqAt.str_int a t' b t
    | str b => obtain ⟨t, rfl⟩ := rx; exact SeqAt.EqAt.str_str a t' b t
    | _ => exact absurd (show false = true from fx) Bool.false_ne_true
  | _ => exact absurd (show false = true from fy) Bool.false_ne_true
def eqU (x : V) (u : Value) : Bool := match u with
  | .none => eqV .non x
  | .bool b => eqV (.bl b) x
  | .int i _ => eqV (.int i) x
  | .str z _ => eqV (.str z) x
  | _ => false
theorem eqU_of {x y : V} {u : Value} (r : RelV y u) (f : flatV y = true) : eqU x u = eqV y x := by
  cases y with
  | non => cases r; rfl
  | bl b => cases r; rfl
  | int i => obtain ⟨t, rfl⟩ := r; rfl
  | str z => obtain ⟨t, rfl⟩ := r; rfl
  | _ => exact absurd (show false = true from f) Bool.false_ne_true
theorem any_eqU {x : V} : ∀ {xs : List V} {us : List Value}, Vals xs us → xs.all flatV = true → us.any (eqU x) = xs.any fun y => eqV y x
  | _, _, .nil, _ => rfl
  | y :: xs, u :: us, .cons r t, f => by
    rw [List.all_cons, Bool.and_eq_true] at f
    rw [List.any_cons, List.any_cons, eqU_of r f.1, any_eqU t f.2]
theorem mem_eqAt {A : Around} {s : Shared} {x : V} {v : Value} (rx : RelV x v) (fx : flatV x = true) : ∀ {xs : List V} {us : List Value}, Vals xs us → xs.all flatV = true → ∀ u ∈ us, SeqAt.EqAt A s u v (eqU x u)
  | _, _, .nil, _ => fun u hu => by cases hu
  | y :: xs, u :: us, .cons r t, f => fun u' hu => by
    rw [List.all_cons, Bool.and_eq_true] at f
    rcases List.mem_cons.mp hu with rfl | hu
    · rw [eqU_of r f.1]; exact eqAt_V r rx f.1 fx
    · exact mem_eqAt rx fx t f.2 u' hu
def inV (x : V) (xs : List V) : Bool := xs.any fun y => eqV y x
def rIn (K : PySem.W.Frag) (neg : Bool) : R2 := fun x y H Q => ∃ p xs, y = .ref p ∧ (SqL K H p xs ∨ SqT K H p xs) ∧ flatV x = true ∧ xs.all flatV = true ∧ Q (.bl (if neg then !inV x xs else inV x xs)) H
theorem op_in_seq : OpR X (compareOp .In) (rIn X.K false) := by
  intro pins s σ H x y v u Q I rx ry h
  obtain ⟨p, xs, rfl, hq, fx, fs, q⟩ := h
  cases ry
  rcases hq with hq | hq
  · obtain ⟨its, r, pl, hz⟩ := I.list hq
    refine SeqAt.in_listAt (eqU x) pl.isList (fun w hw => mem_eqAt rx fx r fs w (by simpa using hw)) ⟨.bl _, H, I, rfl, ?_⟩
    rw [show its.toArray.any (eqU x) = its.any (eqU x) by simp, any_eqU r fs]
    exact q
  · obtain ⟨its, r, pl, hz⟩ := I.tuple hq
    refine SeqAt.in_tupleAt (eqU x) pl (fun w hw => mem_eqAt rx fx r fs w (by simpa using hw)) ⟨.bl _, H, I, rfl, ?_⟩
    rw [show its.toArray.any (eqU x) = its.any (eqU x) by simp, any_eqU r fs]
    exact q
theorem call_len_seq : CallR X (.builtin "len") (fun xs H Q => ∃ p ys, xs = [.ref p] ∧ (SqL X.K H p ys ∨ SqT X.K H p ys) ∧ Q (.int ys.length) H) := by
  intro pins s σ H xs us Q I r h
  obtain ⟨p, ys, rfl, hq, q⟩ := h
  obtain ⟨u, rfl, rx⟩ := vals1 r
  cases rx
  have hn := line63
  rcases hq with hq | hq
  · obtain ⟨its, r', pl, hz⟩ := I.list hq
    have hlen := r'.length
    exact Calls.call_len_list pl.isList (by simp only [List.size_toArray] <;> omega) ⟨.int ys.length, H, I.tok _, ⟨s.toks + 1, by rw [List.size_toArray, hlen]⟩, q⟩
  · obtain ⟨its, r', pl, hz⟩ := I.tuple hq
    have hlen := r'.length
    exact len_tuple pl (by simp only [List.size_toArray] <;> omega) ⟨.int ys.length, H, I.tok _, ⟨s.toks + 1, by rw [List.size_toArray, hlen]⟩, q⟩
theorem CallR.or {f : Value} {r r' : List V → Hp → VK → Prop} (h : CallR X f r) (h' : CallR X f r') : CallR X f (fun xs H Q => r xs H Q ∨ r' xs H Q) := by
  intro pins s σ H xs us Q I rs q
  rcases q with q | q
  · exact h pins s σ H xs us Q I rs q
  · exact h' pins s σ H xs us Q I rs q
def tyV (K : PySem.W.Frag) (T : String) (x : V) (H : Hp) : Prop := match x with
  | .str _ => T = "str"
  | .int _ => T = "int"
  | .ref p => (T = "list" ∧ ∃ xs, SqL K H p xs) ∨ (T = "tuple" ∧ ∃ o, K.lookup p = some o ∧ o.cls = .type "tuple" ∧ o.dict = none) ∨
      (T = "dict" ∧ ((∃ kvs, H p = some (.dK kvs)) ∨ ∃ kvs, H p = some (.dT kvs))) ∨ (T = "set" ∧ ∃ S n, H p = some (.set S n))
  | _ => False
theorem tyV_is {pins : List (Addr × Obj)} {σ : St} {H : Hp} {s : Shared} {T : String} {x : V} {v : Value} (I : Inv X pins σ H s) (r : RelV x v) (ty : tyV X.K T x H) :
    s.TypeIs v T ∧ ∀ a, v = .ref a → ∃ ob, s.heap.get? a = some ob ∧ ob.dict = none := by
  cases x with
  | str z =>
    obtain ⟨t, rfl⟩ := r
    cases (show T = "str" from ty)
    exact ⟨typeIs_str s z t, fun _ e => nomatch e⟩
  | int i =>
    obtain ⟨t, rfl⟩ := r
    cases (show T = "int" from ty)
    exact ⟨typeIs_int s i t, fun _ e => nomatch e⟩
  | ref p =>
    cases r
    rcases ty with ⟨rfl, xs, hq⟩ | ⟨rfl, o, hk, hc, hd⟩ | ⟨rfl, hk⟩ | ⟨rfl, S, n, hk⟩
    · obtain ⟨its, _, pl, _⟩ := I.list hq
      refine ⟨pl.isList.typeIs, fun a e => ?_⟩
      cases e
      obtain ⟨o, n, e, c, hd, _⟩ := pl
      exact ⟨o, e, hd⟩
    · refine ⟨⟨o, I.kIn p o hk, hc⟩, fun a e => ?_⟩
      cases e
      exact ⟨o, I.kIn _ o hk, hd⟩
    · have z : ∃ o, s.heap.get? p = some o ∧ o.ExactDict := by
        rcases hk with ⟨kvs, hk⟩ | ⟨kvs, hk⟩
        · obtain ⟨_, _, _, _, o, _, _, e, ex, _⟩ := I.hok p _ hk
          exact ⟨o, e, ex⟩
        · obtain ⟨_, _, _, _, o, _, _, e, ex, _⟩ := I.hok p _ hk
          exact ⟨o, e, ex⟩
      obtain ⟨o, e, ex⟩ := z
      refine ⟨⟨o, e, ex.1⟩, fun a e2 => ?_⟩
      cases e2
      exact ⟨o, e, ex.2.1⟩
    · obtain ⟨o, _, _, _, e, ex, _⟩ := I.hok p _ hk
      refine ⟨⟨o, e, ex.1⟩, fun a e2 => ?_⟩
      cases e2
      exact ⟨o, e, ex.2.1⟩
  | _ => exact False.elim ty
def tBM0 (K : PySem.W.Frag) (T : String) (r : V → List V → Hp → VK → Prop) (to : TE) : TE := fun σ H Q => to σ H fun x H1 => tyV K T x H1 ∧ r x [] H1 Q
def tBM (K : PySem.W.Frag) (T : String) (r : V → List V → Hp → VK → Prop) (to : TE) (t : TA) : TE := fun σ H Q => to σ H fun x H1 => tyV K T x H1 ∧ t σ H1 fun xs H2 => r x xs H2 Q
variable {o e : Expr} {es : List Expr} {to : TE} {t : TA} {name : Str} {apos cpos : Pos} {T id : String} {r : V → List V → Hp → VK → Prop}
theorem pe_bm (pa : PlainAttrs T) (slot : Slot T name id) (hty : typeOf (.builtin id) = pure (.type "method_descriptor")) (hm : MtR X id r) (ho : PE X o to) (ha : PA X (e :: es) t)
    (hbase : attributeBase o name X.env (eval o X.env) = eval o X.env := by rfl)
    (hfew : ((backTo cpos (starEach (e :: es) X.env)).all (fun x => !x.1) && (backToKw cpos (keywordEach [] X.env)).all (fun x => x.1.isSome)
      && decide ((e :: es).length + ([] : List Keyword).length + (if ([] : List Keyword).isEmpty then 0 else 1) < 30)) = true := by rfl)
    (hline : (apos.endLine == cpos.line) = true := by rfl) (hs : starEach (e :: es) X.env = (false, eval e X.env) :: starEach es X.env := by rfl) (hplain : (backTo cpos (starEach es X.env)).any (·.1) = false := by rfl) :
    PE X (.Call (.Attribute o name apos) (e :: es) [] cpos) (tBM X.K T r to t) := by
  intro pins s σ H Q I h
  refine wpAny_Call_method_late hbase hfew hline rfl (thn (ho pins s σ H _ I h) fun v s1 ⟨x, H1, I1, r1, ty, q1⟩ => ?_)
  obtain ⟨h1, h2⟩ := tyV_is I1 r1 ty
  refine ⟨T, id, pa, slot, hty, h1, h2, ?_⟩
  have hA := ha cpos pins s1 σ H1 _ I1 q1
  rw [hs] at hA ⊢
  refine Calls.callWith_builtin (by show (false || (backTo cpos (starEach es X.env)).any (·.1)) = false; rw [hplain] <;> rfl) (Calls.evalArgs_plain ?_)
  exact thn hA fun us s2 ⟨vs, H2, I2, r2, q2⟩ => hm pins s2 σ H2 x vs v us Q I2 r1 r2 q2
end
end L2
namespace L2
open PySem PySem.Spec PyProof.Rows
def MtM (X : Cx) (id : String) (r : V → List V → Hp → VK → Prop) : Prop :=
  ∀ (pins : List (Addr × Obj)) (s : Shared) (σ : St) (H : Hp) (x : V) (xs : List V) (v : Value) (us : List Value) (Q : VK), Inv X pins σ H s → RelV x v → Vals xs us → r x xs H Q →
    wpAny (model X.prog X.w) X.A (call (.builtin id) (v :: us)) (EP X pins σ Q) X.xe s
theorem Vals.one : ∀ {x : V} {us : List Value}, Vals [x] us → ∃ u, us = [u] ∧ RelV x u
  | _, _, .cons r .nil => ⟨_, rfl, r⟩
theorem Vals.two : ∀ {x y : V} {us : List Value}, Vals [x, y] us → ∃ u v, us = [u, v] ∧ RelV x u ∧ RelV y v
  | _, _, _, .cons r (.cons q .nil) => ⟨_, _, rfl, r, q⟩
theorem Vals.zero : ∀ {us : List Value}, Vals [] us → us = []
  | _, .nil => rfl
theorem Vals.rep {xs : List V} {us : List Value} (h : Vals xs us) : ∀ k : Nat, Vals (List.replicate k xs).flatten (List.replicate k us).flatten
  | 0 => .nil
  | k + 1 => by
    rw [List.replicate_succ, List.replicate_succ, List.flatten_cons, List.flatten_cons]
    exact Vals.append h (Vals.rep h k)
theorem foldl_rep (its : List Value) : ∀ (k : Nat) (acc : List Value),
    List.foldl (fun x1 x2 => x1 ++ x2) acc.toArray (List.replicate k its.toArray) = (acc ++ (List.replicate k its).flatten).toArray
  | 0, acc => by simp
  | k + 1, acc => by
    have e : acc.toArray ++ its.toArray = (acc ++ its).toArray := by simp
    have e2 : (acc ++ its) ++ (List.replicate k its).flatten = acc ++ (List.replicate (k + 1) its).flatten := by
      rw [List.replicate_succ, List.flatten_cons, List.append_assoc]
    rw [← e2, ← foldl_rep its k (acc ++ its), ← e, List.replicate_succ, List.foldl_cons]
section
variable {X : Cx} {pins : List (Addr × Obj)} {σ : St} {H : Hp} {s : Shared} {l b : Addr} {xs ys zs : List V}
theorem Inv.lset {its its' : List Value} {n : Nat} {f : Array Value → Array Value} {t' : Nat} (I : Inv X pins σ H s) (hH : H l = some (.lst xs))
    (e : s.heap.get? l = some { cls := .type "list", data := .seq its.toArray n }) (hf : f its.toArray = its'.toArray) (hv : Vals ys its') (hz : ys.length ≤ sizeLine) :
    Inv X pins σ (upd H l (.lst ys)) { s with heap := s.heap.update l (Obj.mapSeq f), toks := t' } := by
  have q := PySem.IsL.update e f
  rw [hf] at q
  refine I.write (x := l) (e := l) (by rw [hH]; exact trivial) (.inl rfl) (fun b' u hb hu => (Heap.get?_update_other s.heap (Obj.mapSeq f) (Ne.symm hb)).trans hu) ⟨_, q⟩ ?_
  exact ⟨hz, its', _, hv, q⟩
theorem Inv.lnew {its : List Value} {t' : Nat} (I : Inv X pins σ H s) (hv : Vals ys its) (hz : ys.length ≤ sizeLine) :
    Inv X pins σ (upd H s.heap.objs.size (.lst ys)) { s with heap := s.heap.push { cls := .type "list", data := .seq its.toArray }, toks := t' } :=
  I.laid (fun _ _ q => Heap.get?_push_of_some _ q) (Nat.le_refl _) ⟨hz, its, 0, hv, Heap.get?_push_size _ rfl⟩
theorem Inv.fresh (I : Inv X pins σ H s) : H s.heap.objs.size = none := I.hok.fresh (Nat.le_refl _)
theorem Inv.lstM (I : Inv X pins σ H s) (hH : H l = some (.lst xs)) : xs.length ≤ sizeLine ∧ ∃ (its : List Value) (n : Nat), Vals xs its ∧ xs.length = its.length ∧ s.heap.get? l = some { cls := .type "list", data := .seq its.toArray n } := by
  obtain ⟨z, its, n, r, e⟩ := I.hok l _ hH
  exact ⟨z, its, n, r, r.length, e⟩
theorem notLongL {n : Nat} (h : n ≤ sizeLine) : Builtin.List.listTooLong n = false := by
  unfold Builtin.List.listTooLong
  exact decide_eq_false (by omega)
end
section
variable {X : Cx}
def rAppend : V → List V → Hp → VK → Prop := fun x vs H Q => ∃ l xs y, x = .ref l ∧ vs = [y] ∧ H l = some (.lst xs) ∧ xs.length < sizeLine ∧ Q .non (upd H l (.lst (xs ++ [y])))
theorem mt_append : MtM X "list.append" rAppend := by
  intro pins s σ H x vs v us Q I rx rv h
  obtain ⟨l, xs, y, rfl, rfl, hH, hz, q⟩ := h
  cases rx
  obtain ⟨u, rfl, ru⟩ := rv.one
  obtain ⟨z, its, n, r, hl, e⟩ := I.lstM hH
  refine call_meets F.slot_list_append ⟨_, e, rfl⟩ F.entry_list_append (F.args_list_append_2 _ _) (PySem.list_append l its.toArray n u (by rw [List.size_toArray]; omega)) ⟨e, ?_⟩
  refine ⟨.non, _, I.lset (its' := its ++ [u]) hH e (by simp) (r.append (.cons ru .nil)) ?_, rfl, q⟩
  rw [List.length_append, List.length_singleton]
  omega
def rExtend : V → List V → Hp → VK → Prop := fun x vs H Q => ∃ l b xs zs, x = .ref l ∧ vs = [.ref b] ∧ H l = some (.lst xs) ∧ H b = some (.lst zs) ∧ xs.length + zs.length ≤ sizeLine ∧ Q .non (upd H l (.lst (xs ++ zs)))
theorem mt_extend : MtM X "list.extend" rExtend := by
  intro pins s σ H x vs v us Q I rx rv h
  obtain ⟨l, b, xs, zs, rfl, rfl, hH, hB, hz, q⟩ := h
  cases rx
  obtain ⟨u, rfl, ru⟩ := rv.one
  cases ru
  obtain ⟨z, its, n, r, hl, e⟩ := I.lstM hH
  obtain ⟨z2, its2, n2, r2, hl2, e2⟩ := I.lstM hB
  have hsz : its.toArray.size + its2.toArray.size ≤ sizeLine := by rw [List.size_toArray, List.size_toArray]; omega
  have hlong : ¬ (!its.toArray.isEmpty && Builtin.List.listTooLong (its.toArray.size + its2.toArray.size)) = true := by
    rw [notLongL hsz, Bool.and_false]
    exact Bool.false_ne_true
  refine call_meets F.slot_list_extend ⟨_, e, rfl⟩ F.entry_list_extend (F.args_list_extend_2 _ _)
    (AutoSeq1.list_extend_list_list_0 l its.toArray n b its2.toArray n2 hlong (by rw [List.size_toArray]; omega) (by omega)) ⟨e, e2, ?_⟩
  refine ⟨.non, _, I.lset (its' := its ++ its2) hH e (by simp) (r.append r2) ?_, rfl, q⟩
  rw [List.length_append]
  omega
def rRep : R2 := fun x y H Q => ∃ l k xs, x = .ref l ∧ y = .int k ∧ H l = some (.lst xs) ∧ -(2 ^ 63) ≤ k ∧ k < 2 ^ 63 ∧ xs.length * k.toNat ≤ sizeLine ∧
  ∀ p, H p = none → Q (.ref p) (upd H p (.lst (List.replicate k.toNat xs).flatten))
theorem len_rep {α : Type} (xs : List α) (k : Nat) : (List.replicate k xs).flatten.length = k * xs.length := by
  induction k with
  | zero => simp
  | succ k ih => rw [List.replicate_succ, List.flatten_cons, List.length_append, ih, Nat.succ_mul, Nat.add_comm]
theorem op_rep : OpR X (binaryOp .Mult) rRep := by
  intro pins s σ H x y v u Q I rx ry h
  obtain ⟨l, k, xs, rfl, rfl, hH, h1, h2, hz, q⟩ := h
  cases rx
  obtain ⟨t, rfl⟩ := ry
  obtain ⟨z, its, n, r, hl, e⟩ := I.lstM hH
  have hlen : its.toArray.size * k.toNat ≤ sizeLine := by rw [List.size_toArray, ← hl]; exact hz
  have hcap : ¬ its.toArray.size * k.toNat > (2 ^ 63 - 1) / 8 := by
    have : (sizeLine : Nat) ≤ (2 ^ 63 - 1) / 8 := by decide
    omega
  have hfit : ¬ (!Builtin.List.listFitsIndex k) = true := by
    rw [fitsIndex_both h1 h2]
    exact Bool.false_ne_true
  have hlong : ¬ Builtin.List.listTooLong (its.toArray.size * k.toNat) = true := by
    rw [notLongL hlen]
    exact Bool.false_ne_true
  have hnew : List.foldl (fun x1 x2 => x1 ++ x2) #[] (List.replicate (if its.toArray.isEmpty = true then 0 else k.toNat) its.toArray) = (List.replicate k.toNat its).flatten.toArray := by
    have f0 : ∀ m : Nat, List.foldl (fun x1 x2 => x1 ++ x2) #[] (List.replicate m its.toArray) = (List.replicate m its).flatten.toArray := fun m => by
      have := foldl_rep its m []
      rw [List.nil_append] at this
      exact this
    rw [f0]
    cases its with
    | nil => simp
    | cons a r' => rw [if_neg (by simp)]
  refine wpAny_binaryOp_repeat_ref (T := "list") (U := "int") (by decide) ⟨_, e, rfl⟩ (fun s' => typeIs_int s' k t) noFill_list_mul F.fills_int_mul F.slot_int_rmul repeat_list F.slot_int_index.lookup
    (call_meets F.slot_int_rmul (typeIs_int s k t) F.entry_int_rmul (F.args_int_rmul_2 _ _) (int___rmul___int_list k t l its.toArray n)
      ⟨e, rfl, ⟨_, e, rfl⟩, call_meets F.slot_list_mul ⟨_, e, rfl⟩ F.entry_list_mul (F.args_list_mul_2 _ _) (AutoListH.list___mul___list_int_3 l its.toArray n k t hfit hcap hlong) ⟨e, ?_⟩⟩)
  rw [hnew]
  exact ⟨.ref _, _, I.lnew (t' := s.toks) (r.rep k.toNat) (by rw [len_rep, Nat.mul_comm]; exact hz), rfl, q _ I.fresh⟩
end
section
variable {prog : Program} {w : World} {A : Around} {E : Value → Shared → Prop} {s : Shared}
end
section
variable {X : Cx}
end
end L2
namespace L2
open PySem PySem.Spec PyProof.Rows
theorem Vals.ints : ∀ {ns : List Int} {us : List Value}, Vals (ns.map V.int) us → IntsAre us ns
  | [], us, h => by
    rw [List.map_nil] at h
    cases h
    exact IntsAre.nil
  | n :: ns, us, h => by
    rw [List.map_cons] at h
    cases h with
    | cons r t =>
      obtain ⟨k, rfl⟩ := r
      exact IntsAre.cons n k (Vals.ints t)
section
variable {prog : Program} {w : World} {A : Around} {E : Value → Shared → Prop} {s : Shared} {l : Addr} {its : List Value} {ns : List Int} {Q : Value → Shared → Prop}
end
section
variable {X : Cx}
end
section
variable {X : Cx}
end
section
variable {X : Cx}
end
theorem all_range : ∀ bs : List Bool, (List.range bs.length).all (fun i => bs.getD i false) = bs.all id
  | [] => rfl
  | b :: bs => by
    rw [List.length_cons, List.range_succ_eq_map, List.all_cons, List.all_map, List.all_cons, ← all_range bs]
    all_goals rfl
section
variable {X : Cx}
end
mutual
inductive Dp (K : PySem.W.Frag) (H : Hp) : V → PyData → Prop
  | non : Dp K H .non .none
  | bl (b : Bool) : Dp K H (.bl b) (.bool b)
  | int (i : Int) : Dp K H (.int i) (.int i)
  | str (x : Str) : Dp K H (.str x) (.str x)
  | lst {a : Addr} {xs : List V} {ds : List PyData} : SqL K H a xs → DpAll K H xs ds → Dp K H (.ref a) (.list ds)
  | tup {a : Addr} {xs : List V} {ds : List PyData} : SqT K H a xs → DpAll K H xs ds → Dp K H (.ref a) (.tuple ds)
inductive DpAll (K : PySem.W.Frag) (H : Hp) : List V → List PyData → Prop
  | nil : DpAll K H [] []
  | cons {v : V} {vs : List V} {d : PyData} {ds : List PyData} : Dp K H v d → DpAll K H vs ds → DpAll K H (v :: vs) (d :: ds)
end
section
variable {X : Cx} {pins : List (Addr × Obj)} {σ : St} {H : Hp} {s : Shared}
mutual
theorem Dp.reads (I : Inv X pins σ H s) : ∀ (d : PyData) (v : V) (u : Value), Dp X.K H v d → RelV v u → ∃ as, Reads s.heap u d as
  | .none, _, _, h, r => by
    cases h
    cases r
    exact ⟨_, Reads.none⟩
  | .bool b, _, _, h, r => by
    cases h
    cases r
    exact ⟨_, Reads.bool b⟩
  | .int i, _, _, h, r => by
    cases h
    obtain ⟨t, rfl⟩ := r
    exact ⟨_, Reads.int i t⟩
  | .str x, _, _, h, r => by
    cases h
    obtain ⟨t, rfl⟩ := r
    exact ⟨_, Reads.str x t⟩
  | .list ds, _, _, h, r => by
    cases h with
    | lst hs ha =>
      cases r
      obtain ⟨its, rv, ⟨o, n, ho, hc, _, hd⟩, _⟩ := I.list hs
      obtain ⟨as, hr⟩ := Dp.readsAll I ds _ its ha rv
      exact ⟨_, Reads.list ho hc hd hr⟩
  | .tuple ds, _, _, h, r => by
    cases h with
    | tup hs ha =>
      cases r
      obtain ⟨its, rv, ⟨o, ho, hc, n, hd⟩, _⟩ := I.tuple hs
      obtain ⟨as, hr⟩ := Dp.readsAll I ds _ its ha rv
      exact ⟨_, Reads.tuple ho hc hd hr⟩
  | .dict _, _, _, h, _ => by cases h
theorem Dp.readsAll (I : Inv X pins σ H s) : ∀ (ds : List PyData) (vs : List V) (us : List Value), DpAll X.K H vs ds → Vals vs us → ∃ as, ReadsAll s.heap us ds as
  | [], _, _, h, r => by
    cases h
    cases r
    exact ⟨_, ReadsAll.nil⟩
  | d :: ds, _, _, h, r => by
    cases h with
    | cons h1 h2 =>
      cases r with
      | cons r1 r2 =>
        obtain ⟨as, q1⟩ := Dp.reads I d _ _ h1 r1
        obtain ⟨bs, q2⟩ := Dp.readsAll I ds _ _ h2 r2
        exact ⟨_, ReadsAll.cons q1 q2⟩
end
end
section
variable {X : Cx}
end
end L2
namespace L2
open PySem PySem.Spec PyProof.Rows
abbrev CellAt (h : Heap) (c : Addr) (v : Option Value) : Prop := h.IsCell c v
def relS (scope sc : Scope) : Scope :=
  { scope with names := scope.names.map fun (n, k) => if (k == .free && sc.kind == .function && sc.names.lookup n == some .cell) then (n, .cell) else (n, k) }
def cloFrom (cells : List (Str × Addr)) : List (Str × NameKind) → List (Str × Addr) → List (Str × Addr)
  | [], acc => acc
  | (n, k) :: r, acc => if k == .free then cloFrom cells r ((n, (cells.lookup n).getD 0) :: acc) else cloFrom cells r acc
theorem closure_loop (env : Env) (f : Str × NameKind → List (Str × Addr) → Sem (ForInStep (List (Str × Addr))))
    (hf : ∀ n k c, f (n, k) c = if k == .free then (do let a ← cellOf env n; pure (.yield ((n, a) :: c))) else pure (.yield c)) :
    ∀ (names : List (Str × NameKind)) (acc : List (Str × Addr)), (∀ y ∈ names, y.2 = .free → ∃ c, env.cells.lookup y.1 = some c) → forIn names acc f = pure (cloFrom env.cells names acc)
  | [], acc, _ => by rw [List.forIn_nil]; rfl
  | (n, k) :: r, acc, h => by
    rw [List.forIn_cons, hf]
    have ih := fun acc => closure_loop env f hf r acc fun y hy => h y (List.mem_cons_of_mem _ hy)
    unfold cloFrom
    by_cases hk : (k == NameKind.free) = true
    · rw [if_pos hk, if_pos hk]
      obtain ⟨c, hc⟩ := h (n, k) List.mem_cons_self (by simpa using hk)
      have e : cellOf env n = pure c := by unfold cellOf; rw [hc]
      rw [e]
      have e2 : (env.cells.lookup n).getD 0 = c := by rw [hc]; rfl
      rw [e2]
      exact ih _
    · rw [if_neg hk, if_neg hk]
      exact ih _
theorem closure_ok {scope : Scope} {env : Env} (h : ∀ y ∈ scope.names, y.2 = .free → ∃ c, env.cells.lookup y.1 = some c) : closureFor scope env = pure (cloFrom env.cells scope.names []) := by
  simp only [closureFor]
  rw [closure_loop env _ (fun n k c => rfl) scope.names [] h]
  rfl
theorem mem_lookup {α : Type} : ∀ {l : List (Str × α)} {n : Str} {c : α}, (n, c) ∈ l → ∃ c', l.lookup n = some c'
  | (k, v) :: r, n, c, h => by
    rw [List.lookup_cons]
    cases hb : n == k with
    | true => exact ⟨_, rfl⟩
    | false =>
      rcases List.mem_cons.mp h with e | h
      · cases e; simp at hb
      · exact mem_lookup h
theorem cloFrom_mem {cells : List (Str × Addr)} : ∀ {names : List (Str × NameKind)} {acc : List (Str × Addr)} {n : Str} {c : Addr}, (n, c) ∈ cloFrom cells names acc → (n, c) ∈ acc ∨ ((n, .free) ∈ names ∧ c = (cells.lookup n).getD 0)
  | [], _, _, _, h => .inl h
  | (m, k) :: r, acc, n, c, h => by
    unfold cloFrom at h
    split at h
    · rename_i hk
      have hk : k = .free := by simpa using hk
      rcases cloFrom_mem h with h | ⟨h1, h2⟩
      · rcases List.mem_cons.mp h with e | h
        · cases e; exact .inr ⟨hk ▸ List.mem_cons_self, rfl⟩
        · exact .inl h
      · exact .inr ⟨List.mem_cons_of_mem _ h1, h2⟩
    · rcases cloFrom_mem h with h | ⟨h1, h2⟩
      · exact .inl h
      · exact .inr ⟨List.mem_cons_of_mem _ h1, h2⟩
theorem cloFrom_acc {cells : List (Str × Addr)} : ∀ {names : List (Str × NameKind)} {acc : List (Str × Addr)} {p : Str × Addr}, p ∈ acc → p ∈ cloFrom cells names acc
  | [], _, _, h => h
  | (m, k) :: r, acc, p, h => by
    unfold cloFrom
    split
    · exact cloFrom_acc (List.mem_cons_of_mem _ h)
    · exact cloFrom_acc h
theorem cloFrom_has {cells : List (Str × Addr)} : ∀ {names : List (Str × NameKind)} {acc : List (Str × Addr)} {n : Str}, (n, .free) ∈ names → (n, (cells.lookup n).getD 0) ∈ cloFrom cells names acc
  | (m, k) :: r, acc, n, h => by
    unfold cloFrom
    rcases List.mem_cons.mp h with e | h
    · cases e
      exact cloFrom_acc List.mem_cons_self
    · split
      · exact cloFrom_has h
      · exact cloFrom_has h
theorem cells_mem : ∀ {names : List (Str × NameKind)} {h : Heap} {acc : List (Str × Addr)} {x : Str} {c : Addr}, (x, c) ∈ cellsFrom h.objs.size names acc →
    (x, c) ∈ acc ∨ ((x, .cell) ∈ names ∧ h.objs.size ≤ c ∧ CellAt (pushCells h names) c none)
  | [], _, _, _, _, h => .inl h
  | (n, k) :: r, h, acc, x, c, hm => by
    unfold cellsFrom at hm
    unfold pushCells
    split at hm
    · rename_i hk
      rw [if_pos hk]
      have hk : k = .cell := by simpa using hk
      rw [← Heap.size_push h { cls := .type "cell", data := .cell none }] at hm
      rcases cells_mem hm with hm | ⟨h1, h2, h3⟩
      · rcases List.mem_cons.mp hm with e | hm
        · cases e
          exact .inr ⟨hk ▸ List.mem_cons_self, Nat.le_refl _, _, pushCells_keeps r _ _ _ (Heap.get?_push_size _ rfl), rfl⟩
        · exact .inl hm
      · rw [Heap.size_push] at h2
        exact .inr ⟨List.mem_cons_of_mem _ h1, Nat.le_of_succ_le h2, h3⟩
    · rename_i hk
      rw [if_neg hk]
      rcases cells_mem hm with hm | ⟨h1, h2, h3⟩
      · exact .inl hm
      · exact .inr ⟨List.mem_cons_of_mem _ h1, h2, h3⟩
theorem cells_acc : ∀ {names : List (Str × NameKind)} {n : Nat} {acc : List (Str × Addr)} {p : Str × Addr}, p ∈ acc → p ∈ cellsFrom n names acc
  | [], _, _, _, h => h
  | (m, k) :: r, n, acc, p, h => by
    unfold cellsFrom
    split
    · exact cells_acc (List.mem_cons_of_mem _ h)
    · exact cells_acc h
theorem cells_has : ∀ {names : List (Str × NameKind)} {n : Nat} {acc : List (Str × Addr)} {x : Str}, (x, .cell) ∈ names → ∃ c, (x, c) ∈ cellsFrom n names acc
  | (m, k) :: r, n, acc, x, h => by
    unfold cellsFrom
    rcases List.mem_cons.mp h with e | h
    · cases e
      exact ⟨n, cells_acc List.mem_cons_self⟩
    · split
      · exact cells_has h
      · exact cells_has h
theorem cells_inj : ∀ {names : List (Str × NameKind)} {h : Heap} {acc : List (Str × Addr)} {x y : Str} {c : Addr}, (∀ p ∈ acc, p.2 < h.objs.size) → (∀ x y c, (x, c) ∈ acc → (y, c) ∈ acc → x = y) →
    (x, c) ∈ cellsFrom h.objs.size names acc → (y, c) ∈ cellsFrom h.objs.size names acc → x = y
  | [], _, _, _, _, _, _, hi, h1, h2 => hi _ _ _ h1 h2
  | (n, k) :: r, h, acc, x, y, c, hl, hi, h1, h2 => by
    unfold cellsFrom at h1 h2
    split at h1
    · rename_i hk
      rw [if_pos hk] at h2
      rw [← Heap.size_push h { cls := .type "cell", data := .cell none }] at h1 h2
      refine cells_inj (h := h.push _) (fun p hp => ?_) (fun x y c a b => ?_) h1 h2
      · rw [Heap.size_push]
        rcases List.mem_cons.mp hp with rfl | hp
        · exact Nat.lt_succ_self _
        · exact Nat.lt_succ_of_lt (hl p hp)
      · rcases List.mem_cons.mp a with e | a <;> rcases List.mem_cons.mp b with e' | b
        · cases e; cases e'; rfl
        · cases e; exact absurd (hl _ b) (Nat.lt_irrefl _)
        · cases e'; exact absurd (hl _ a) (Nat.lt_irrefl _)
        · exact hi _ _ _ a b
    · rename_i hk
      rw [if_neg hk] at h2
      exact cells_inj hl hi h1 h2
theorem newEnv_comp {M : Model} {A : Around} {E : Value → Shared → Prop} {s : Shared} {scope : Scope} {globals : Addr} {closure : List (Str × Addr)} {qual : Str} {func : Option Addr} {code : Value} {around : Env} {builtins : Addr} {Q : Env → Shared → Prop}
    (h : Q (newEnv scope s.heap.objs.size globals (cellsFrom (s.heap.objs.size + 1) scope.names closure) qual func code (some around) builtins)
      { s with heap := pushCells (s.heap.push { cls := .type "dict", data := .dict #[] }) scope.names }) :
    wpAny M A (newFunctionEnv scope globals closure [] qual func code (some around) builtins) Q E s := by
  simp only [newFunctionEnv, Option.isSome_some, if_true]
  refine wpAny_bind (wpAny_alloc ?_)
  refine wpAny_bind (wpAny_layCells _ (fun n k c => rfl) scope.names closure _ _ ?_)
  rw [show ({ s with heap := s.heap.push { cls := .type "dict", data := .dict #[] } } : Shared).heap.objs.size = s.heap.objs.size + 1 from Heap.size_push ..]
  rw [List.forIn_nil]
  exact wpAny_bind (wpAny_pure (wpAny_pure h))
theorem lookup_relS {sc : Scope} : ∀ {names : List (Str × NameKind)} {x : Str} {k : NameKind},
    (names.map fun (n, k) => if (k == NameKind.free && sc.kind == .function && sc.names.lookup n == some .cell) then (n, NameKind.cell) else (n, k)).lookup x = some k →
    ∃ k', names.lookup x = some k' ∧ (k = k' ∨ (k' = .free ∧ k = .cell))
  | [], _, _, h => by simp at h
  | (n, k₀) :: r, x, k, h => by
    have ih := @lookup_relS sc r x k
    have h' : List.lookup x ((if (k₀ == NameKind.free && sc.kind == .function && sc.names.lookup n == some .cell) = true then (n, NameKind.cell) else (n, k₀)) :: (r.map _)) = some k := h
    cases hx : x == n with
    | true =>
      simp only [List.lookup_cons, hx]
      by_cases hc : (k₀ == NameKind.free && sc.kind == .function && sc.names.lookup n == some .cell) = true
      · rw [if_pos hc] at h'
        simp only [List.lookup_cons, hx] at h'
        cases h'
        simp only [Bool.and_eq_true, beq_iff_eq] at hc
        exact ⟨k₀, rfl, .inr ⟨hc.1.1, rfl⟩⟩
      · rw [if_neg hc] at h'
        simp only [List.lookup_cons, hx] at h'
        cases h'
        exact ⟨_, rfl, .inl rfl⟩
    | false =>
      simp only [List.lookup_cons, hx]
      by_cases hc : (k₀ == NameKind.free && sc.kind == .function && sc.names.lookup n == some .cell) = true
      · rw [if_pos hc] at h'
        simp only [List.lookup_cons, hx] at h'
        exact ih h'
      · rw [if_neg hc] at h'
        simp only [List.lookup_cons, hx] at h'
        exact ih h'
structure BlkOk (N : List Str) (sc scope : Scope) (own : List (Str × Nat)) : Prop where
  kind : scope.kind = .function
  uniq : ∀ y ∈ scope.names, scope.names.lookup y.1 = some y.2
  ix : ∀ p ∈ own, N[p.2]? = some p.1
  free : ∀ y ∈ scope.names, y.2 = .free → sc.names.lookup y.1 = some .cell ∨ sc.names.lookup y.1 = some .free
  own : ∀ y ∈ scope.names, y.2 = .local ∨ y.2 = .cell → y.1 ∈ own.map (·.1) ∨ y.1 ∉ N
def wipe (σ : St) : List Nat → St
  | [] => σ
  | v :: vs => (wipe σ vs).set v none
theorem wipe_length (σ : St) : ∀ vs : List Nat, (wipe σ vs).length = σ.length
  | [] => rfl
  | v :: vs => by unfold wipe; rw [List.length_set, wipe_length σ vs]
theorem wipe_some {σ : St} {i : Nat} {x : V} : ∀ {vs : List Nat}, (wipe σ vs)[i]? = some (some x) → σ[i]? = some (some x) ∧ i ∉ vs
  | [], h => ⟨h, by simp⟩
  | v :: vs, h => by
    unfold wipe at h
    by_cases hi : v = i
    · subst hi
      by_cases hv : v < (wipe σ vs).length
      · rw [List.getElem?_set_self hv] at h; cases h
      · rw [List.getElem?_eq_none (by simpa using hv)] at h; cases h
    · rw [List.getElem?_set_ne hi] at h
      obtain ⟨h1, h2⟩ := wipe_some h
      exact ⟨h1, by simp only [List.mem_cons, not_or]; exact ⟨fun e => hi e.symm, h2⟩⟩
abbrev Cx.blk (X : Cx) (s : Shared) (H : Hp) (scope : Scope) (cenv : Env) (fp : List Addr) : Cx := { X with s_0 := s, H_0 := H, env := cenv, outer := X.stack, ex := fp, fn := fun x => scope.names.lookup x == some .cell, pn := [], xe := fun _ _ => False }
section
variable {X : Cx} {pins : List (Addr × Obj)} {σ : St} {H : Hp} {s : Shared}
theorem block_start {scope : Scope} {own : List (Str × Nat)} {fp : List Addr} (I : Inv X pins σ H s) (ok : BlkOk X.N X.env.scope scope own) (hN : X.N.Nodup) (hfp : ∀ b ∈ fp, FpOk X pins H b ∧ b < s.heap.objs.size) :
    Inv (X.blk s H scope (compEnvC scope (cellsFrom (s.heap.objs.size + 1) scope.names (cloFrom X.env.cells scope.names [])) s.heap.objs.size X.env) fp) [] (wipe σ (own.map (·.2))) H { s with heap := pushCells (s.heap.push { cls := .type "dict", data := .dict #[] }) scope.names } := by
  have hfree : ∀ y ∈ scope.names, y.2 = .free → ∃ c, X.env.cells.lookup y.1 = some c := fun y hy e => by
    rcases ok.free y hy e with k | k
    · exact I.ok.has _ (.inl k)
    · exact I.ok.has _ (.inr k)
  generalize hcenv : compEnvC scope (cellsFrom (s.heap.objs.size + 1) scope.names (cloFrom X.env.cells scope.names [])) s.heap.objs.size X.env = cenv
  have kp : ∀ b o, s.heap.get? b = some o → (pushCells (s.heap.push { cls := .type "dict", data := .dict #[] }) scope.names).get? b = some o := fun b o e => pushCells_keeps _ _ _ _ (Heap.get?_push_of_some _ e)
  have hL : cenv.locals = s.heap.objs.size := by rw [← hcenv]; rfl
  have hcl : cenv.cells = cellsFrom (s.heap.objs.size + 1) scope.names (cloFrom X.env.cells scope.names []) := by rw [← hcenv]; rfl
  have hsc : cenv.scope = relS scope X.env.scope := by rw [← hcenv]; rfl
  rw [← Heap.size_push s.heap { cls := .type "dict", data := .dict #[] }] at hcl
  have cm : ∀ {y c}, (y, c) ∈ cloFrom X.env.cells scope.names [] → X.env.cells.lookup y = some c ∧ c < s.heap.objs.size := fun {y c} hm => by
    rcases cloFrom_mem hm with hm | ⟨h1, rfl⟩
    · cases hm
    · obtain ⟨c, hc⟩ := hfree _ h1 rfl
      rw [hc]
      obtain ⟨w, z⟩ := I.cell _ _ hc
      exact ⟨rfl, z.lt⟩
  have mem : ∀ {y c}, cenv.cells.lookup y = some c → (X.env.cells.lookup y = some c ∧ c < s.heap.objs.size) ∨ (s.heap.objs.size + 1 ≤ c ∧ CellAt (pushCells (s.heap.push { cls := .type "dict", data := .dict #[] }) scope.names) c none) := fun {y c} e => by
    rw [hcl] at e
    rcases cells_mem (PySem.mem_of_lookup e) with hm | ⟨_, h2, h3⟩
    · exact .inl (cm hm)
    · rw [Heap.size_push] at h2; exact .inr ⟨h2, h3⟩
  have look : ∀ {y}, scope.names.lookup y = some .free → ∃ c, cenv.cells.lookup y = some c ∧ X.env.cells.lookup y = some c := fun {y} hl => by
    have hy : (y, NameKind.free) ∈ scope.names := PySem.mem_of_lookup hl
    obtain ⟨c', e'⟩ := mem_lookup (cells_acc (names := scope.names) (n := (s.heap.push { cls := .type "dict", data := .dict #[] }).objs.size) (cloFrom_has (cells := X.env.cells) (acc := []) hy))
    rw [← hcl] at e'
    refine ⟨c', e', ?_⟩
    rw [hcl] at e'
    rcases cells_mem (PySem.mem_of_lookup e') with hm | ⟨h1, _, _⟩
    · exact (cm hm).1
    · have := ok.uniq _ h1
      rw [hl] at this; cases this
  have okB : (X.blk s H scope cenv fp).Ok := by
    refine ⟨I.ok.mod, by show cenv.scope.kind = _; rw [hsc]; exact ok.kind, by show cenv.globals = _; rw [← hcenv]; exact I.ok.glob, by show cenv.builtins = _; rw [← hcenv]; exact I.ok.blt, by show s.heap.objs.size ≤ cenv.locals; rw [hL]; exact Nat.le_refl _,
      fun y z c e1 e2 => ?_, fun y hy => ?_, fun y c z e => ?_, I.ok.hd, I.ok.frames, .inl rfl, fun b hb => ⟨?_, fun y c e z => ?_⟩, I.bs, Nat.le_trans I.ok.bsz I.sz, fun b o e hb => ?_, fun b hb z => ?_, I.stack, I.stkFree⟩
    · have e1 : cenv.cells.lookup y = some c := e1
      have e2 : cenv.cells.lookup z = some c := e2
      rw [hcl] at e1 e2
      refine cells_inj (fun p hp => ?_) (fun y z c a b => I.ok.inj y z c (cm a).1 (cm b).1) (PySem.mem_of_lookup e1) (PySem.mem_of_lookup e2)
      rw [Heap.size_push]
      exact Nat.lt_succ_of_lt (cm (y := p.1) (c := p.2) hp).2
    · show ∃ c, cenv.cells.lookup y = some c
      have key : ∀ k, cenv.kindOf y = some k → (k = .cell ∨ k = .free) → ∃ c, cenv.cells.lookup y = some c := fun k hk hk' => by
        unfold Env.kindOf at hk
        rw [hsc] at hk
        obtain ⟨k', e, r⟩ := lookup_relS hk
        have : k' = .cell ∨ k' = .free := by
          rcases r with rfl | ⟨rfl, _⟩
          · exact hk'
          · exact .inr rfl
        rcases this with rfl | rfl
        · obtain ⟨c, hm⟩ := cells_has (n := (s.heap.push { cls := .type "dict", data := .dict #[] }).objs.size) (acc := cloFrom X.env.cells scope.names []) (PySem.mem_of_lookup e)
          obtain ⟨c', e'⟩ := mem_lookup hm
          exact ⟨c', by rw [hcl]; exact e'⟩
        · obtain ⟨c, h1, _⟩ := look e
          exact ⟨c, h1⟩
      rcases hy with hy | hy
      · exact key _ hy (.inl rfl)
      · exact key _ hy (.inr rfl)
    · have z : (scope.names.lookup y == some NameKind.cell) = true := z
      have z : scope.names.lookup y = some .cell := by simpa using z
      have e : cenv.cells.lookup y = some c := e
      rw [hcl] at e
      rcases cells_mem (PySem.mem_of_lookup e) with hm | ⟨_, h2, _⟩
      · rcases cloFrom_mem hm with hm | ⟨h1, _⟩
        · cases hm
        · have q := ok.uniq _ h1
          rw [z] at q; cases q
      · rw [Heap.size_push] at h2
        exact Nat.le_of_succ_le h2
    · show b ≠ cenv.locals
      rw [hL]; exact Nat.ne_of_lt (hfp b hb).2
    · have e : cenv.cells.lookup y = some c := e
      rcases mem e with ⟨h1, _⟩ | ⟨h1, _⟩
      · exact (hfp b hb).1.2.2.2.2.1 y c h1 z
      · have h2 : s.heap.objs.size + 1 ≤ b := by rw [← z]; exact h1
        exact absurd (Nat.lt_of_lt_of_le (hfp b hb).2 (Nat.le_of_succ_le h2)) (Nat.lt_irrefl _)
    · rcases (hfp b hb).1.2.2.2.1 with z | z
      · exact I.ok.noex b o e z
      · exact absurd (Nat.lt_of_lt_of_le (Heap.lt_size e) (Nat.le_trans I.ok.bsz z)) (Nat.lt_irrefl _)
    · rcases List.mem_cons.mp (I.stkSub b z) with z | z
      · exact (hfp b hb).1.2.1 z
      · exact (hfp b hb).1.2.2.1 z
  refine ⟨okB, rfl, I.bare, Un.kept kp, ⟨fun _ => none, ?_, fun i y av e1 e2 e3 => ?_⟩, fun y c e => ?_, ?_, fun y c e => ?_, fun p hp => ?_, I.hok.kept kp, by rw [wipe_length]; exact I.len⟩
  · show Heap.Ns _ cenv.locals _
    rw [hL]
    exact Heap.Ns.keeps (Heap.Ns.new ..) fun b o e => pushCells_keeps _ _ _ _ e
  · obtain ⟨e2, hne⟩ := wipe_some e2
    have hfr : scope.names.lookup y = some .free ∧ (cenv.kindOf y = some .cell ∨ cenv.kindOf y = some .free) := by
      have key : ∀ k, cenv.scope.names.lookup y = some k → k = .local ∨ k = .cell ∨ k = .free → scope.names.lookup y = some .free ∧ (cenv.kindOf y = some .cell ∨ cenv.kindOf y = some .free) := fun k hk hk' => by
        have hk0 := hk
        rw [hsc] at hk
        obtain ⟨k', e, r⟩ := lookup_relS hk
        have no : ¬ (k' = .local ∨ k' = .cell) := fun hh => by
          rcases ok.own _ (PySem.mem_of_lookup e) hh with e' | e'
          · obtain ⟨p, hp, hpy⟩ := List.mem_map.mp e'
            have e3 := ok.ix p hp
            have : p.1 = y := hpy
            rw [this] at e3
            exact hne (List.mem_map.mpr ⟨p, hp, nodup_ix hN e3 e1⟩)
          · exact e' (List.mem_of_getElem? e1)
        rcases r with rfl | ⟨rfl, rfl⟩
        · rcases hk' with rfl | rfl | rfl
          · exact absurd (.inl rfl) no
          · exact absurd (.inr rfl) no
          · exact ⟨e, .inr hk0⟩
        · exact ⟨e, .inl hk0⟩
      have e3 : Vis cenv.scope y := e3
      rcases e3 with e3 | e3 | e3
      · exact key _ e3 (.inl rfl)
      · exact key _ e3 (.inr (.inl rfl))
      · exact key _ e3 (.inr (.inr rfl))
    obtain ⟨m, hn, hl⟩ := I.loc
    have hvis : Vis X.env.scope y := (ok.free _ (PySem.mem_of_lookup hfr.1) rfl).elim (fun k => .inr (.inl k)) (fun k => .inr (.inr k))
    obtain ⟨w, r, q⟩ := hl i y av e1 e2 hvis
    refine ⟨w, r, .inr ⟨hfr.2, ?_⟩⟩
    obtain ⟨c, h1, h2⟩ := look hfr.1
    rcases q with ⟨k, _⟩ | ⟨_, c', e', z⟩
    · have k : X.env.scope.names.lookup y = some .local := k
      rcases ok.free _ (PySem.mem_of_lookup hfr.1) rfl with k' | k' <;> rw [show X.env.scope.names.lookup y = _ from k'] at k <;> cases k
    · rw [h2] at e'; cases e'
      exact ⟨c, h1, z.keeps kp⟩
  · have e : cenv.cells.lookup y = some c := e
    rcases mem e with ⟨h1, _⟩ | ⟨_, z⟩
    · obtain ⟨w, z⟩ := I.cell y c h1
      exact ⟨w, z.keeps kp⟩
    · exact ⟨_, z⟩
  · show H cenv.locals = none
    rw [hL]; exact I.hok.fresh (Nat.le_refl _)
  · have e : cenv.cells.lookup y = some c := e
    rcases mem e with ⟨h1, _⟩ | ⟨h1, _⟩
    · exact I.freeC y c h1
    · exact I.hok.fresh (Nat.le_of_succ_le h1)
  · exact absurd (show p ∈ ([] : List (Addr × Obj)) ++ [] from hp) (by simp)
theorem app_ok {E : Value → Shared → Prop} {D : Addr} {xs : List V} {y : V} {v : Value} {Q : Value → Shared → Prop} (I : Inv X pins σ H s) (hD : H D = some (.lst xs)) (hz : xs.length < sizeLine) (r : RelV y v)
    (h : ∀ s', Inv X pins σ (upd H D (.lst (xs ++ [y]))) s' → Q .none s') : wpAny (model X.prog X.w) X.A (call (.builtin "list.append") [.ref D, v]) Q E s := by
  obtain ⟨hz', its, n, ri, e⟩ := I.hok D _ hD
  have hl := ri.length
  refine append_at (hsz := by rw [List.size_toArray]; omega) e fun h' sb ho' => ?_
  refine h { s with heap := h' } (I.write (t' := s.toks) (by rw [hD]; trivial) (.inl rfl) (fun b u hb q => (sb.2 b hb).trans q) ⟨_, ho'⟩ ⟨by rw [List.length_append]; exact hz, its ++ [v], n + 1, ri.append (.cons r .nil), ?_⟩)
  rw [ho']
  simp
def PTs (X : Cx) (ifs : List Expr) (t : TT) : Prop :=
  ∀ (pins : List (Addr × Obj)) (s : Shared) (σ : St) (H : Hp) (Q : Bool → Hp → Prop), Inv X pins σ H s → t σ H Q →
    wpAny (model X.prog X.w) X.A (forIn ifs true fun c r => if r = true then do let ok ← isTrue c X.env (eval c X.env); pure (ForInStep.yield ok) else pure (ForInStep.yield r)) (TP X pins σ Q) X.xe s
def tYes : TT := fun _ H Q => Q true H
theorem pts_nil : PTs X [] tYes := fun _ _ _ H _ I h => wpAny_tests_nil ⟨H, I, h⟩
theorem pts_one {c : Expr} {t : TT} (h : PT X c t) : PTs X [c] t := fun pins s σ H Q I hw => wpAny_tests_one (h pins s σ H Q I hw)
end
theorem thnF {α : Type} {t : Sem α} {Q Q' : α → Shared → Prop} {M : Model} {A : Around} {E : Value → Shared → Prop} {s : Shared} (h : wpAny M A t Q (fun _ _ => False) s) (hQ : ∀ a s, Q a s → Q' a s) : wpAny M A t Q' E s := wpAny_mono h hQ fun _ _ z => False.elim z
theorem compLoop_any {prog : Program} {w : World} {A : Around} {R : Result → Shared → Prop} {s : Shared} {elt target iter : Expr} {ifs : List Expr} {scope : Scope} {pos : Pos} {it acc : Value} {env : Env} (I : Nat → Shared → Prop)
    (turn : ∀ n s, I n s → wpAny (model prog w) A (pyNext it) (fun r s₁ => match r with
      | none => R (.ok .next) s₁
      | some v => wpAny (model prog w) A (letOwnedTupleGo target it v) (fun _ s₁' => wpAny (model prog w) A (assign target env v) (fun _ s₂ =>
          wpAny (model prog w) A (forIn ifs true fun c r => if r = true then do let ok ← isTrue c env (eval c env); pure (ForInStep.yield ok) else pure (ForInStep.yield r)) (fun ok s₃ =>
            if ok = true then wpAny (model prog w) A (eval elt env) (fun x s₄ =>
              wpAny (model prog w) A (call (.builtin "list.append") [acc, x]) (fun _ s₅ => ∃ m, m < n ∧ I m s₅) (notedBy (model prog w) A env fun e s' => R (.error e) s') s₄) (notedBy (model prog w) A env fun e s' => R (.error e) s') s₃
            else ∃ m, m < n ∧ I m s₃) (notedBy (model prog w) A env fun e s' => R (.error e) s') s₂) (notedBy (model prog w) A env fun e s' => R (.error e) s') s₁') (notedBy (model prog w) A env fun e s' => R (.error e) s') s₁) (notedBy (model prog w) A env fun e s' => R (.error e) s') s)
    (n : Nat) (h : I n s) :
    codeAny (model prog w) A (.compLoop (.ListComp elt [⟨target, iter, ifs, 0⟩] scope pos) 0 it acc env) R s := by
  refine codeAny_loop rfl I (fun n s hI => ?_) n h
  show wpAny _ A ((compTurn (.ListComp elt [⟨target, iter, ifs, 0⟩] scope pos) 0 it acc env).onRaise (fun x => do noteFrame x env; theTreesLotGoes x)) _ _ s
  refine wpAny_noted ?_
  rw [compTurn_list]
  refine wpAny_bind (wpAny_standAt (wpAny_bind (wpAny_mono (turn n s hI) (fun r s₁ h₁ => ?_) fun _ _ h' => h')))
  cases r with
  | none => exact wpAny_pure h₁
  | some v =>
    refine wpAny_bind (wpAny_mono h₁ (fun _ s₁' h₁' => ?_) fun _ _ h' => h')
    refine wpAny_bind (wpAny_mono h₁' (fun _ s₂ h₂ => wpAny_bind (wpAny_mono h₂ (fun ok s₃ h₃ => ?_) fun _ _ h' => h')) fun _ _ h' => h')
    cases ok with
    | false => exact wpAny_pure ⟨rfl, h₃⟩
    | true =>
      exact wpAny_bind (wpAny_bind (wpAny_mono h₃ (fun x s₄ h₄ => wpAny_bind (wpAny_mono h₄ (fun _ s₅ h₅ => wpAny_pure (wpAny_pure ⟨rfl, h₅⟩)) fun _ _ h' => h')) fun _ _ h' => h'))
section
variable {X : Cx}
def tLc (wi : TI) (g : TG) (tt : TT) (te : TE) (vs : List Nat) : TE := fun σ H Q => wi σ H fun J H1 => ∀ D, H1 D = none → ∃ W : Nat → Nat → Hp → Prop, (∃ m, W 0 m (upd H1 D (.lst []))) ∧ ∀ i m H, W i m H →
  (J.stop i H ∧ Q (.ref D) H) ∨ (J.go i H ∧ ∃ Nx : Hp → Prop, (∀ H', Nx H' → ∃ m', m' < m ∧ W (i + 1) m' H') ∧ ∀ x H', J.yld i H x H' → g x (wipe σ vs) H' fun σ2 H2 => wipe σ2 vs = wipe σ vs ∧ tt σ2 H2 fun b H3 =>
    if b = true then te σ2 H3 fun y H4 => ∃ acc, H4 D = some (.lst acc) ∧ acc.length < sizeLine ∧ Nx (upd H4 D (.lst (acc ++ [y]))) else Nx H3)
theorem lc_core {pins : List (Addr × Obj)} {s : Shared} {σ : St} {H : Hp} {Q : VK} {elt tg iter : Expr} {ifs : List Expr} {scope : Scope} {own : List (Str × Nat)} {pos pos' : Pos} {wi : TI} {g : TG} {tt : TT} {te : TE} {use : Option (Value → Sem Unit)} {Qf : Value → Shared → Prop}
    (hc : X.calm = true) (hN : X.N.Nodup) (I : Inv X pins σ H s) (hi : PI X tg iter wi) (ok : BlkOk X.N X.env.scope scope own)
    (hg : ∀ (s : Shared) (H : Hp) (C : Addr) (cl : List (Str × Addr)) (fp : List Addr), PG (X.blk s H scope (compEnvC scope cl C X.env) fp) tg g) (ht : ∀ (s : Shared) (H : Hp) (C : Addr) (cl : List (Str × Addr)) (fp : List Addr), PTs (X.blk s H scope (compEnvC scope cl C X.env) fp) ifs tt)
    (he : ∀ (s : Shared) (H : Hp) (C : Addr) (cl : List (Str × Addr)) (fp : List Addr), PE (X.blk s H scope (compEnvC scope cl C X.env) fp) elt te) (hs : ∀ x, foldedSetIterable iter X.env x = pure x)
    (h : tLc wi g tt te (own.map (·.2)) σ H Q)
    (hRR : ∀ D C s' m H', Inv X pins σ H' s' → Q (.ref D) H' → s'.heap.Ns C m → FpOk X pins H' C → compPost (model X.prog X.w) X.A X.xe use Qf (.ref D) C (.ok .next) s') :
    wpAny (model X.prog X.w) X.A (comprehension (.ListComp elt [⟨tg, iter, ifs, 0⟩] scope pos) scope X.env pos' (newList []) false (eval iter X.env) use) Qf X.xe s := by
  have hfree : ∀ y ∈ scope.names, y.2 = .free → ∃ c, X.env.cells.lookup y.1 = some c := fun y hy e => by
    rcases ok.free y hy e with k | k
    · exact I.ok.has _ (.inl k)
    · exact I.ok.has _ (.inr k)
  refine wpAny_comprehension_free (use := use) rfl hs (closure_ok hfree) ok.kind (fun y hy e => by rw [ok.uniq y hy, e])
    (thn (hi pins s σ H _ I h) fun xv s1 hx => thn hx fun itv s2 h2 => ?_)
  obtain ⟨it, fp, tn, J, H2, e, I2, T, st2, f2, q⟩ := h2
  subst e
  refine wpAny_newObj_type (newEnv_comp ?_) (by show 0 ≤ sizeLine; decide)
  generalize hD : s2.heap.objs.size = D
  have hDn : H2 D = none := I2.hok.fresh (Nat.le_of_eq hD)
  obtain ⟨W, ⟨m0, w0⟩, turn⟩ := q D hDn
  -- the new list
  generalize hs3 : ({ s2 with heap := s2.heap.push { cls := .type "list", data := .seq ([] : List Value).toArray } } : Shared) = s3
  have I3 : Inv X pins σ (upd H2 D (.lst [])) s3 := by
    rw [← hs3]
    refine I2.laid (t' := s2.toks) (fun b o e => Heap.get?_push_of_some _ e) (Nat.le_of_eq hD) ⟨Nat.zero_le _, [], 0, .nil, ?_⟩
    rw [← hD]
    exact Heap.get?_push_size _ rfl
  have h3 : s3.heap = s2.heap.push { cls := .type "list", data := .seq ([] : List Value).toArray } := by rw [← hs3]
  have sz : ∀ b ∈ fp, b < s2.heap.objs.size := fun b hb => by
    obtain ⟨o, e, _⟩ := T.obj _ _ st2 b hb
    exact Heap.lt_size e
  have f3 : ∀ b ∈ fp, FpOk X pins (upd H2 D (.lst [])) b ∧ b < s3.heap.objs.size := fun b hb => by
    have hlt := sz b hb
    refine ⟨⟨?_, (f2 b hb).2⟩, by rw [h3, Heap.size_push]; exact Nat.lt_succ_of_lt hlt⟩
    rw [upd_ne (by rw [← hD]; exact Nat.ne_of_lt hlt)]
    exact (f2 b hb).1
  have st3 : tn 0 s3.heap := T.keep _ _ _ st2 fun b _ o e => by rw [h3]; exact Heap.get?_push_of_some _ e
  have I4 := block_start I3 ok hN f3
  have pg := hg s3 (upd H2 D (.lst [])) s3.heap.objs.size (cellsFrom (s3.heap.objs.size + 1) scope.names (cloFrom X.env.cells scope.names [])) fp
  have pt := ht s3 (upd H2 D (.lst [])) s3.heap.objs.size (cellsFrom (s3.heap.objs.size + 1) scope.names (cloFrom X.env.cells scope.names [])) fp
  have pe := he s3 (upd H2 D (.lst [])) s3.heap.objs.size (cellsFrom (s3.heap.objs.size + 1) scope.names (cloFrom X.env.cells scope.names [])) fp
  show codeAny _ _ (.compStart (.ListComp elt [⟨tg, iter, ifs, 0⟩] scope pos) 0 (.ref it) (.ref D) (compEnvC scope (cellsFrom (s3.heap.objs.size + 1) scope.names (cloFrom X.env.cells scope.names [])) s3.heap.objs.size X.env)) (compPost (model X.prog X.w) X.A X.xe use Qf (.ref D) s3.heap.objs.size) { s3 with heap := pushCells (s3.heap.push { cls := .type "dict", data := .dict #[] }) scope.names }
  have nfp : ∀ b ∈ fp, (upd H2 D (.lst [])) b = none := fun b hb => (f3 b hb).1.1
  generalize hce : compEnvC scope (cellsFrom (s3.heap.objs.size + 1) scope.names (cloFrom X.env.cells scope.names [])) s3.heap.objs.size X.env = ce at I4 pg pt pe ⊢
  have cL : ce.locals = s3.heap.objs.size := by subst hce; rfl
  generalize hH3 : upd H2 D (.lst []) = H3 at I3 I4 pg pt pe w0 nfp f3
  generalize hs4 : ({ s3 with heap := pushCells (s3.heap.push { cls := .type "dict", data := .dict #[] }) scope.names } : Shared) = s4 at I4 ⊢
  have st4 : tn 0 s4.heap := T.keep _ _ _ st3 fun b _ o e => by rw [← hs4]; exact pushCells_keeps _ _ _ _ (Heap.get?_push_of_some _ e)
  have stat : ∀ {σ' : St} {H' : Hp} {s' : Shared}, Inv (X.blk s3 H3 scope ce fp) [] σ' H' s' → (∀ b ∈ fp, H' b = none) → ∀ b ∈ fp, FpOk (X.blk s3 H3 scope ce fp) [] H' b := fun {σ' H' s'} I' hn b hb =>
    ⟨hn b hb, (I'.ok.exf b hb).1, I'.ok.exfs b hb, .inl hb, fun x c e => (I'.ok.exf b hb).2 x c e, fun p hp => absurd (show p ∈ ([] : List (Addr × Obj)) ++ [] from hp) (by simp)⟩
  have loop : codeAny (model X.prog X.w) X.A (.compLoop (.ListComp elt [⟨tg, iter, ifs, 0⟩] scope pos) 0 (.ref it) (.ref D) ce) (compPost (model X.prog X.w) X.A X.xe use Qf (.ref D) s3.heap.objs.size) s4 := by
    refine compLoop_any (fun n s' => ∃ i H', Inv (X.blk s3 H3 scope ce fp) [] (wipe σ (own.map (·.2))) H' s' ∧ tn i s'.heap ∧ (∀ b ∈ fp, H' b = none) ∧ W i n H') ?_ m0 ⟨0, H3, I4, st4, nfp, w0⟩
    rintro n s5 ⟨i, H5, I5, st5, n5, w5⟩
    rcases turn i n H5 w5 with ⟨stop, qq⟩ | ⟨go, Nx, hNx, step⟩
    · have td := T.done (X.blk s3 H3 scope ce fp) rfl rfl rfl hc i [] s5 _ H5 (fun _ _ => False) I5 (stat I5 n5) st5 stop
      refine thnF td fun r s6 ⟨hr, I6⟩ => ?_
      subst hr
      -- back in the def's context
      have I7 : Inv X pins σ H5 s6 := I3.call' (ch := fp) I6.os I6.base I6.hok I6.bare fun b hb => ⟨(f3 b hb).1.2.2.2.1, (f3 b hb).1.2.1, (f3 b hb).1.2.2.2.2.1, (f3 b hb).1.2.2.2.2.2⟩
      have nC : H5 s3.heap.objs.size = none := by
        have z : H5 ce.locals = none := I6.free
        rw [cL] at z
        exact z
      obtain ⟨m, hn, _⟩ := I6.loc
      have hn : s6.heap.Ns ce.locals m := hn
      rw [cL] at hn
      exact hRR D s3.heap.objs.size s6 m H5 I7 qq hn (I3.fpOk (Nat.le_refl _) nC)
    · have ti := T.item (X.blk s3 H3 scope ce fp) rfl rfl rfl hc i [] s5 _ H5 (fun _ _ => False) I5 (stat I5 n5) st5 go
      refine thnF ti fun r s6 ⟨u, hr, h6⟩ => ?_
      subst hr
      refine thnF h6 fun _ s7 ⟨x, H7, I7, r7, y7, st7, n7⟩ => ?_
      have I7' := I7.pinned (stat I7 n7) (T.obj _ _ st7)
      refine thnF (pg _ s7 _ H7 x u _ I7' r7 (step x H7 y7)) fun _ s8 ⟨σ8, H8, I8, hw8, q8⟩ => ?_
      refine thnF (pt _ s8 σ8 H8 _ I8 q8) fun b s9 ⟨H9, I9, q9⟩ => ?_
      -- the turn's end
      have fin : ∀ {s' : Shared} {H' : Hp}, Inv (X.blk s3 H3 scope ce fp) ([] ++ pinsAt fp s7.heap) σ8 H' s' → Nx H' → ∃ m, m < n ∧ ∃ i H', Inv (X.blk s3 H3 scope ce fp) [] (wipe σ (own.map (·.2))) H' s' ∧ tn i s'.heap ∧ (∀ b ∈ fp, H' b = none) ∧ W i m H' := fun {s' H'} I' nx => by
        obtain ⟨m', hm, w'⟩ := hNx H' nx
        have pin' : ∀ b ∈ fp, ∀ o, s7.heap.get? b = some o → s'.heap.get? b = some o ∧ H' b = none := fun b hb o e =>
          let z := I'.pin (b, o) (List.mem_append_right _ (List.mem_append_right _ (mem_pinsAt hb e)))
          ⟨z.1, z.2.1⟩
        have hl : (wipe σ (own.map (·.2))).length = σ8.length := by rw [← hw8, wipe_length]
        refine ⟨m', hm, i + 1, H', (I'.unpinned (pins := [])).weak hl (fun j v e => ?_), T.keep _ _ _ st7 fun b hb o e => (pin' b hb o e).1, fun b hb => ?_, w'⟩
        · rw [← hw8] at e
          exact (wipe_some e).1
        · obtain ⟨o, e, _⟩ := T.obj _ _ st7 b hb
          exact (pin' b hb o e).2
      cases b with
      | false =>
        simp only [Bool.false_eq_true, if_false] at q9 ⊢
        exact fin I9 q9
      | true =>
        simp only [if_true] at q9 ⊢
        refine thnF (pe _ s9 σ8 H9 _ I9 q9) fun z s10 ⟨yv, H10, I10, r10, acc, hD10, hz10, nx⟩ => ?_
        exact app_ok (X := X.blk s3 H3 scope ce fp) I10 hD10 hz10 r10 fun s11 I11 => fin I11 nx
  exact codeAny_compStart_list loop (T.self X.A 0 _ _ _ st4 loop)
theorem pe_lc {elt tg iter : Expr} {ifs : List Expr} {scope : Scope} {own : List (Str × Nat)} {pos : Pos} {wi : TI} {g : TG} {tt : TT} {te : TE} (hc : X.calm = true) (hN : X.N.Nodup) (hi : PI X tg iter wi) (ok : BlkOk X.N X.env.scope scope own)
    (hg : ∀ (s : Shared) (H : Hp) (C : Addr) (cl : List (Str × Addr)) (fp : List Addr), PG (X.blk s H scope (compEnvC scope cl C X.env) fp) tg g) (ht : ∀ (s : Shared) (H : Hp) (C : Addr) (cl : List (Str × Addr)) (fp : List Addr), PTs (X.blk s H scope (compEnvC scope cl C X.env) fp) ifs tt)
    (he : ∀ (s : Shared) (H : Hp) (C : Addr) (cl : List (Str × Addr)) (fp : List Addr), PE (X.blk s H scope (compEnvC scope cl C X.env) fp) elt te) (hs : ∀ x, foldedSetIterable iter X.env x = pure x := by intro _; rfl) :
    PE X (.ListComp elt [⟨tg, iter, ifs, 0⟩] scope pos) (tLc wi g tt te (own.map (·.2))) := by
  intro pins s σ H Q I h
  rw [eval_ListComp]
  refine lc_core hc hN I hi ok hg ht he hs h fun D C s' m H' I' q hn f => ⟨m, hn, fun h'' sb => ?_⟩
  obtain ⟨f0, f1, f2, f3, f4, f5⟩ := f
  exact ⟨.ref D, H', I'.turned (t' := s'.toks) (fun b o hb e => (sb.2 b hb).trans e) f0 f1 f3 f4 f5, rfl, q⟩
end
theorem lc_range {lo : Int} {n : Nat} {g : TG} {tt : TT} {te : TE} {vs : List Nat} {σ : St} {H1 : Hp} {D : Addr} {Qd : Hp → Prop} (Pv : Nat → Hp → Prop) (h0 : Pv 0 (upd H1 D (.lst [])))
    (hs : ∀ i H, i < n → Pv i H → g (.int (lo + i)) (wipe σ vs) H fun σ2 H2 => wipe σ2 vs = wipe σ vs ∧ tt σ2 H2 fun b H3 =>
      if b = true then te σ2 H3 fun y H4 => ∃ acc, H4 D = some (.lst acc) ∧ acc.length < sizeLine ∧ Pv (i + 1) (upd H4 D (.lst (acc ++ [y]))) else Pv (i + 1) H3) (hd : ∀ H, Pv n H → Qd H) :
    ∃ W : Nat → Nat → Hp → Prop, (∃ m, W 0 m (upd H1 D (.lst []))) ∧ ∀ i m H, W i m H →
      ((Itr lo n).stop i H ∧ Qd H) ∨ ((Itr lo n).go i H ∧ ∃ Nx : Hp → Prop, (∀ H', Nx H' → ∃ m', m' < m ∧ W (i + 1) m' H') ∧ ∀ x H', (Itr lo n).yld i H x H' → g x (wipe σ vs) H' fun σ2 H2 => wipe σ2 vs = wipe σ vs ∧ tt σ2 H2 fun b H3 =>
        if b = true then te σ2 H3 fun y H4 => ∃ acc, H4 D = some (.lst acc) ∧ acc.length < sizeLine ∧ Nx (upd H4 D (.lst (acc ++ [y]))) else Nx H3) := by
  refine ⟨fun i m H => m = n - i ∧ i ≤ n ∧ Pv i H, ⟨n, by simp, Nat.zero_le _, h0⟩, ?_⟩
  rintro i m H ⟨rfl, hi, p⟩
  by_cases hlt : i < n
  · refine .inr ⟨hlt, Pv (i + 1), fun H' p' => ⟨n - (i + 1), by omega, rfl, hlt, p'⟩, fun x H' y => ?_⟩
    obtain ⟨e, y⟩ := y
    subst e y
    exact hs i _ hlt p
  · have e : i = n := by omega
    subst e
    exact .inl ⟨Nat.le_refl _, hd H p⟩
theorem lc_list {K : PySem.W.Frag} {a : Addr} {xs : List V} {g : TG} {tt : TT} {te : TE} {vs : List Nat} {σ : St} {H1 : Hp} {D : Addr} {Qd : Hp → Prop} (Pv : Nat → Hp → Prop) (h0 : Pv 0 (upd H1 D (.lst []))) (hl : ∀ i H, i ≤ xs.length → Pv i H → SqL K H a xs)
    (hs : ∀ i x H, xs[i]? = some x → Pv i H → g x (wipe σ vs) H fun σ2 H2 => wipe σ2 vs = wipe σ vs ∧ tt σ2 H2 fun b H3 =>
      if b = true then te σ2 H3 fun y H4 => ∃ acc, H4 D = some (.lst acc) ∧ acc.length < sizeLine ∧ Pv (i + 1) (upd H4 D (.lst (acc ++ [y]))) else Pv (i + 1) H3) (hd : ∀ H, Pv xs.length H → Qd H) :
    ∃ W : Nat → Nat → Hp → Prop, (∃ m, W 0 m (upd H1 D (.lst []))) ∧ ∀ i m H, W i m H →
      ((Itl K a).stop i H ∧ Qd H) ∨ ((Itl K a).go i H ∧ ∃ Nx : Hp → Prop, (∀ H', Nx H' → ∃ m', m' < m ∧ W (i + 1) m' H') ∧ ∀ x H', (Itl K a).yld i H x H' → g x (wipe σ vs) H' fun σ2 H2 => wipe σ2 vs = wipe σ vs ∧ tt σ2 H2 fun b H3 =>
        if b = true then te σ2 H3 fun y H4 => ∃ acc, H4 D = some (.lst acc) ∧ acc.length < sizeLine ∧ Nx (upd H4 D (.lst (acc ++ [y]))) else Nx H3) := by
  refine ⟨fun i m H => m = xs.length - i ∧ i ≤ xs.length ∧ Pv i H, ⟨xs.length, by simp, Nat.zero_le _, h0⟩, ?_⟩
  rintro i m H ⟨rfl, hi, p⟩
  have q := hl i H hi p
  by_cases hlt : i < xs.length
  · refine .inr ⟨⟨xs, xs[i], q, by simp [hlt]⟩, Pv (i + 1), fun H' p' => ⟨xs.length - (i + 1), by omega, rfl, hlt, p'⟩, fun x H' y => ?_⟩
    obtain ⟨e, y⟩ := y
    subst e
    exact hs i x _ (y xs q) p
  · have e : i = xs.length := by omega
    subst e
    exact .inl ⟨⟨xs, q, Nat.le_refl _⟩, hd H p⟩
end L2
namespace L2
open PySem PySem.Spec PyProof.Rows
section
variable {prog : Program} {w : World} {A : Around} {R : Result → Shared → Prop} {s : Shared} {elt t0 i0 t1 i1 : Expr} {ifs0 ifs1 : List Expr} {scope : Scope} {pos : Pos} {it acc : Value} {env : Env}
end
section
variable {X : Cx}
end
end L2
namespace L2
open PySem PySem.Spec PyProof.Rows
section
variable {κ : Type} [DecidableEq κ]
def valV (kvs : List (κ × V)) (k : κ) : Option V := (kvs.find? fun kv => decide (kv.1 = k)).map (·.2)
def putK (kvs : List (κ × V)) (k : κ) (v : V) : List (κ × V) :=
  if (kvs.any fun kv => decide (kv.1 = k)) = true then kvs.map (fun kv => if kv.1 = k then (kv.1, v) else kv) else kvs ++ [(k, v)]
def dropK (kvs : List (κ × V)) (k : κ) : List (κ × V) := kvs.filter fun kv => decide (kv.1 ≠ k)
theorem valV_pos {p : κ × V} {r : List (κ × V)} {k : κ} (e : p.1 = k) : valV (p :: r) k = some p.2 := by simp [valV, List.find?_cons, e]
theorem valV_neg {p : κ × V} {r : List (κ × V)} {k : κ} (e : ¬ p.1 = k) : valV (p :: r) k = valV r k := by simp [valV, List.find?_cons, e]
theorem valV_any (k : κ) : ∀ kvs : List (κ × V), (kvs.any fun kv => decide (kv.1 = k)) = (valV kvs k).isSome
  | [] => rfl
  | p :: r => by
    rw [List.any_cons]
    by_cases e : p.1 = k
    · simp only [valV_pos e, decide_eq_true e, Bool.true_or, Option.isSome_some]
    · rw [valV_neg e, decide_eq_false e, Bool.false_or]; exact valV_any k r
theorem RelO.isSome_eq {o : Option V} {u : Option Value} (r : RelO o u) : o.isSome = u.isSome := by
  cases o with
  | none => cases u with
    | none => rfl
    | some _ => exact (show False from r).elim
  | some _ => cases u with
    | none => exact (show False from r).elim
    | some _ => rfl
theorem RelO.getD {o : Option V} {u : Option Value} {d : V} {d' : Value} (r : RelO o u) (rd : RelV d d') : RelV (o.getD d) (u.getD d') := by
  cases o with
  | none => cases u with
    | none => exact rd
    | some _ => exact (show False from r).elim
  | some _ => cases u with
    | none => exact (show False from r).elim
    | some _ => exact r
theorem KV.val {kvs : List (κ × V)} {vs : List (κ × Value)} (r : KV kvs vs) (k : κ) : RelO (valV kvs k) (valueAt vs k) := by
  unfold KV at r
  induction r with
  | nil => exact True.intro
  | @cons p q ps qs h t ih =>
    obtain ⟨h1, h2⟩ := h
    by_cases e : p.1 = k
    · have e' : q.1 = k := h1.symm.trans e
      have b : valueAt (q :: qs) k = some q.2 := by simp [valueAt, List.find?_cons, e']
      rw [valV_pos e, b]; exact h2
    · have e' : ¬ q.1 = k := fun z => e (h1.trans z)
      have b : valueAt (q :: qs) k = valueAt qs k := by simp [valueAt, List.find?_cons, e']
      rw [valV_neg e, b]; exact ih
theorem KV.any {kvs : List (κ × V)} {vs : List (κ × Value)} (r : KV kvs vs) (k : κ) : (kvs.any fun kv => decide (kv.1 = k)) = vs.any fun kv => decide (kv.1 = k) := by
  unfold KV at r
  induction r with
  | nil => rfl
  | cons h t ih => rw [List.any_cons, List.any_cons, ih, h.1]
theorem KV.repl {kvs : List (κ × V)} {vs : List (κ × Value)} (r : KV kvs vs) (k : κ) {y : V} {u : Value} (ry : RelV y u) :
    KV (kvs.map fun kv => if kv.1 = k then (kv.1, y) else kv) (vs.map fun kv => if kv.1 = k then (kv.1, u) else kv) := by
  unfold KV at r ⊢
  induction r with
  | nil => exact .nil
  | @cons p q ps qs h t ih =>
    rw [List.map_cons, List.map_cons]
    refine .cons ?_ ih
    obtain ⟨h1, h2⟩ := h
    by_cases e : p.1 = k
    · rw [if_pos e, if_pos (h1.symm.trans e)]; exact ⟨h1, ry⟩
    · rw [if_neg e, if_neg (fun z => e (h1.trans z))]; exact ⟨h1, h2⟩
theorem KV.put {kvs : List (κ × V)} {vs : List (κ × Value)} (r : KV kvs vs) (k : κ) {y : V} {u : Value} (ry : RelV y u) : KV (putK kvs k y) (stored vs k u) := by
  unfold putK stored
  rw [r.any k]
  by_cases e : (vs.any fun kv => decide (kv.1 = k)) = true
  · rw [if_pos e, if_pos e]; exact r.repl k ry
  · rw [if_neg e, if_neg e]; exact Paired.snoc r ⟨rfl, ry⟩
theorem KV.drop {kvs : List (κ × V)} {vs : List (κ × Value)} (r : KV kvs vs) (k : κ) : KV (dropK kvs k) (without vs k) := by
  unfold KV at r ⊢
  unfold dropK without
  induction r with
  | nil => exact .nil
  | @cons p q ps qs h t ih =>
    obtain ⟨h1, h2⟩ := h
    rw [List.filter_cons, List.filter_cons]
    by_cases e : p.1 = k
    · have a : ¬ decide (p.1 ≠ k) = true := by simp [e]
      have b : ¬ decide (q.1 ≠ k) = true := by simp [h1.symm.trans e]
      rw [if_neg a, if_neg b]; exact ih
    · have e' : ¬ q.1 = k := fun z => e (h1.trans z)
      have a : decide (p.1 ≠ k) = true := by simp [e]
      have b : decide (q.1 ≠ k) = true := by simp [e']
      rw [if_pos a, if_pos b]; exact .cons ⟨h1, h2⟩ ih
theorem KV.keys {kvs : List (κ × V)} {vs : List (κ × Value)} (r : KV kvs vs) : kvs.map (·.1) = vs.map (·.1) := by
  unfold KV at r
  induction r with
  | nil => rfl
  | cons h t ih => rw [List.map_cons, List.map_cons, ih, h.1]
theorem KV.length {kvs : List (κ × V)} {vs : List (κ × Value)} (r : KV kvs vs) : kvs.length = vs.length := Paired.length r
end
abbrev KT (H : Hp) : List (List Key × V) → List (List Key × Addr × Value) → Prop := Paired fun p q => p.1 = q.1 ∧ H q.2.1 = some (.tup (p.1.map kV)) ∧ RelV p.2 q.2.2
theorem KT.val {H : Hp} {kvs : List (List Key × V)} {xs : List (List Key × Addr × Value)} (r : KT H kvs xs) (k : List Key) : RelO (valV kvs k) ((atKey xs k).map (·.2)) := by
  induction r with
  | nil => exact True.intro
  | @cons p q ps qs h t ih =>
    obtain ⟨h1, _, h2⟩ := h
    by_cases e : p.1 = k
    · have e' : q.1 = k := h1.symm.trans e
      have b : atKey (q :: qs) k = some q.2 := by simp [atKey, List.find?_cons, e']
      rw [valV_pos e, b]; exact h2
    · have e' : ¬ q.1 = k := fun z => e (h1.trans z)
      have b : atKey (q :: qs) k = atKey qs k := by simp [atKey, List.find?_cons, e']
      rw [valV_neg e, b]; exact ih
theorem KT.repl {H : Hp} {kvs : List (List Key × V)} {xs : List (List Key × Addr × Value)} (r : KT H kvs xs) (k : List Key) {y : V} {u : Value} (ry : RelV y u) :
    KT H (kvs.map fun kv => if kv.1 = k then (kv.1, y) else kv) (xs.map (putAt k u)) := by
  induction r with
  | nil => exact .nil
  | @cons p q ps qs h t ih =>
    rw [List.map_cons, List.map_cons]
    refine .cons ?_ ih
    obtain ⟨h1, h2, h3⟩ := h
    unfold putAt
    by_cases e : p.1 = k
    · rw [if_pos e, if_pos (h1.symm.trans e)]; exact ⟨h1, h2, ry⟩
    · rw [if_neg e, if_neg (fun z => e (h1.trans z))]; exact ⟨h1, h2, h3⟩
theorem KT.put {H : Hp} {kvs : List (List Key × V)} {xs : List (List Key × Addr × Value)} (r : KT H kvs xs) (k : List Key) {b : Addr} {y : V} {u : Value} (hb : H b = some (.tup (k.map kV))) (ry : RelV y u) :
    KT H (putK kvs k y) (storedH xs k b u) := by
  have e : (kvs.any fun kv => decide (kv.1 = k)) = (atKey xs k).isSome := by
    rw [valV_any, (r.val k).isSome_eq, Option.isSome_map]
  unfold putK storedH
  rw [e]
  by_cases q : (atKey xs k).isSome = true
  · rw [if_pos q, if_pos q]; exact r.repl k ry
  · rw [if_neg q, if_neg q]; exact Paired.snoc r ⟨rfl, hb, ry⟩
theorem KT.keeps {H H' : Hp} {kvs : List (List Key × V)} {xs : List (List Key × Addr × Value)} (r : KT H kvs xs) (ht : ∀ b ys, H b = some (.tup ys) → H' b = some (.tup ys)) : KT H' kvs xs :=
  Paired.mapP r fun _ _ z => ⟨z.1, ht _ _ z.2.1, z.2.2⟩
section
variable {P : Program} {w : World} {H : Hp} {h : Heap} {a : Addr}
end
def DGet (H : Hp) (a : Addr) (y : V) (r : Option V) : Prop :=
  (∃ kvs k, Rd H a (.dK kvs) ∧ y = kV k ∧ r = valV kvs k) ∨ ∃ kvs k b, Rd H a (.dT kvs) ∧ y = .ref b ∧ H b = some (.tup (k.map kV)) ∧ r = valV kvs k
def DPut (H : Hp) (a : Addr) (y v : V) (H' : Hp) : Prop :=
  (∃ kvs k, H a = some (.dK kvs) ∧ y = kV k ∧ kvs.length < sizeLine ∧ H' = upd H a (.dK (putK kvs k v))) ∨
  ∃ kvs k b, H a = some (.dT kvs) ∧ y = .ref b ∧ H b = some (.tup (k.map kV)) ∧ kvs.length < sizeLine ∧ H' = upd H a (.dT (putK kvs k v))
theorem DGet.k {H : Hp} {a : Addr} {kvs : List (Key × V)} {k : Key} (e : H a = some (.dK kvs)) : DGet H a (kV k) (valV kvs k) := .inl ⟨kvs, k, .inl e, rfl, rfl⟩
theorem DGet.t {H : Hp} {a b : Addr} {kvs : List (List Key × V)} {k : List Key} (e : H a = some (.dT kvs)) (eb : H b = some (.tup (k.map kV))) : DGet H a (.ref b) (valV kvs k) := .inr ⟨kvs, k, b, .inl e, rfl, eb, rfl⟩
theorem DPut.k {H : Hp} {a : Addr} {kvs : List (Key × V)} {k : Key} {v : V} (e : H a = some (.dK kvs)) (hl : kvs.length < sizeLine) : DPut H a (kV k) v (upd H a (.dK (putK kvs k v))) := .inl ⟨kvs, k, e, rfl, hl, rfl⟩
theorem DPut.t {H : Hp} {a b : Addr} {kvs : List (List Key × V)} {k : List Key} {v : V} (e : H a = some (.dT kvs)) (eb : H b = some (.tup (k.map kV))) (hl : kvs.length < sizeLine) :
    DPut H a (.ref b) v (upd H a (.dT (putK kvs k v))) := .inr ⟨kvs, k, b, e, rfl, eb, hl, rfl⟩
section
variable {X : Cx} {pins : List (Addr × Obj)} {σ : St} {H : Hp} {s : Shared} {a : Addr} {y v : V} {u r : Value} {o : Option V} {A : Around} {E : Value → Shared → Prop}
end
section
variable {X : Cx} {pins : List (Addr × Obj)} {σ : St} {H : Hp} {s : Shared} {a : Addr} {kvs : List (Key × V)} {k : Key} {u : Value} {A : Around} {E : Value → Shared → Prop}
end
section
variable {X : Cx} {o i e value : Expr} {pos pos' tpos : Pos} {td ty tv : TE}
end
section
variable {X : Cx} {pos : Pos}
end
section
variable {X : Cx} {pins : List (Addr × Obj)} {σ : St} {H : Hp} {s : Shared} {a : Addr} {y d : V} {u r : Value} {o : Option V} {A : Around} {E : Value → Shared → Prop}
end
section
variable {X : Cx} {o e f : Expr} {apos cpos : Pos} {td ty tx : TE}
end
section
variable {X : Cx} {pins : List (Addr × Obj)} {σ : St} {H : Hp} {s : Shared} {a : Addr} {kvs : List (Key × V)} {A : Around} {E : Value → Shared → Prop}
end
section
variable {X : Cx} {pins : List (Addr × Obj)} {σ : St} {H : Hp} {s : Shared} {a : Addr} {y : V} {u : Value} {A : Around} {E : Value → Shared → Prop}
end
end L2
namespace L2
open PySem PySem.Spec PyProof.Rows
section
variable {prog : Program} {w : World} {A : Around} {E : Value → Shared → Prop}
end
section
variable {X : Cx}
end
end L2
namespace L2
open PySem PySem.Spec PyProof.Rows
section
variable {X : Cx} {pins : List (Addr × Obj)} {σ : St} {H : Hp} {s : Shared} {h' : Heap}
end
section
variable {X : Cx}
end
def RgC (i j c : Int) (n : Nat) : Prop := c ≠ 0 ∧ c.natAbs < 1073741824 ∧ Builtin.Range.small i j c = true ∧ Builtin.Range.rangeSize i j c = n
theorem RgC.neg {i j : Int} (ha : -(2 ^ 62) ≤ i) (ha' : i < 2 ^ 62) (hb : -(2 ^ 62) ≤ j) (hb' : j < 2 ^ 62) : RgC i j (-1) (i - j).toNat :=
  ⟨by decide, by decide, PySem.W.small_down ha ha' hb hb', PySem.W.rangeSize_downNat i j⟩
section
variable {X : Cx} {tg : Expr}
end
section
variable {X : Cx} {tg : Expr}
end
section
variable {prog : Program} {w : World} {A : Around} {E : Value → Shared → Prop} {s : Shared}
end
section
variable {X : Cx} {pins : List (Addr × Obj)} {σ : St} {H : Hp} {s : Shared} {d : Addr} {o : Obj}
end
section
variable {P : Program} {w : World} {K : PySem.W.Frag} {tg : Expr} {d : Addr} {o : Obj} {es : Array DictEntry} {ep : Nat}
end
section
variable {X : Cx} {tg e : Expr} {td : TE} {apos cpos : Pos}
end
end L2
section 
namespace Bits
open PySem PyProof.Rows
end Bits
end 
section 
namespace TL
open PySem PySem.Builtin PySem.Builtin.Str PySem.StrLaws
abbrev tl (x : Str) : List Nat := x.cps.toList
def pre (S l : List Nat) : Bool := l.take S.length == S
def par (S : List Nat) : List Nat → List Nat → Option (List Nat × List Nat)
  | _, [] => none
  | acc, c :: r => if pre S (c :: r) = true then some (acc, (c :: r).drop S.length) else par S (acc ++ [c]) r
end TL
end 
namespace L2
open PySem PySem.Spec PyProof.Rows
section
variable {X : Cx} {pins : List (Addr × Obj)} {σ : St} {H : Hp} {s : Shared} {Q : VK}
end
section
variable {X : Cx}
end
section
variable {X : Cx} {o e : Expr} {to te : TE}
end
end L2
namespace L2
open PySem PySem.Spec PyProof.Rows
section
variable {X : Cx}
end
end L2
namespace Att
open PySem PySem.W PySem.Calls PyProof.Rows
theorem ints_of_wellAll {P : Params} {h : Heap} : ∀ (ns : List Int) (vs : List Value), WellAll P h vs (ns.map WData.int) → IntsAre vs ns := by
  intro ns
  induction ns with
  | nil =>
    intro vs w
    rw [List.map_nil] at w
    cases w
    exact .nil
  | cons n ns ih =>
    intro vs w
    rw [List.map_cons] at w
    cases w with
    | cons a b =>
      cases a
      exact .cons _ _ (ih _ b)
section
variable {prog : Program} {w : World} {A : Around} {E : Value → Shared → Prop} {s : Shared} {K : Frag}
end
end Att
namespace L2
open PySem PySem.Spec PyProof.Rows
theorem vals_ints : ∀ {vs : List Value} {ns : List Int}, IntsAre vs ns → Vals (ns.map V.int) vs
  | _, _, .nil => .nil
  | _, _, .cons n t h => .cons ⟨t, rfl⟩ (vals_ints h)
def Only (H : Hp) : Prop := ∀ b, H b = none ∨ ∃ o xs, H b = some (.frz o (.lst xs))
end L2
namespace L2
open PySem PySem.Spec PyProof.Rows
abbrev KOf {K : PySem.W.Frag} {h : Heap} (_ : K.In h) : PySem.W.Frag := K
end L2
namespace L2
open PySem PySem.Spec PyProof.Rows
def inClass (s : Stmt) (j : Nat) : Stmt := match s with
  | .ClassDef _ _ _ body _ _ _ _ _ _ _ => body.getD j (.Pass ⟨0, 0, 0, 0⟩)
  | _ => .Pass ⟨0, 0, 0, 0⟩
def defArgs (s : Stmt) : Arguments := match s with
  | .FunctionDef _ a _ _ _ _ _ _ _ _ => a
  | _ => { posonlyargs := [], args := [], vararg := none, kwonlyargs := [], kw_defaults := [], kwarg := none, defaults := [] }
def defBody (s : Stmt) : List Stmt := match s with
  | .FunctionDef _ _ b _ _ _ _ _ _ _ => b
  | _ => []
def defScope (s : Stmt) : Scope := match s with
  | .FunctionDef _ _ _ _ _ _ sc _ _ _ => sc
  | _ => { kind := .function, names := [], isGenerator := false, isCoroutine := false }
abbrev CX0 : CXT := fun _ _ _ _ _ _ => False
abbrev E0 : XK := fun _ _ _ => False
theorem pass0 {X : Cx} : Passes CX0 X E0 := fun _ _ _ _ _ _ _ h => h.elim
structure Fun (K : PySem.W.Frag) (x qual : Str) (st : Stmt) (f : Addr) (fd : FuncData) : Prop where
  ex : ∃ (oc : Value) (od : Option Addr) (kV doc pm : Value) (an : Option Addr) (cdv ct : Value) (osl : Array (Option Value)),
    fd = PySem.W.fnOf x qual (defArgs st) (defBody st) (defScope st) .none kV doc pm an cdv ct ∧ K.lookup f = some ⟨oc, od, .func fd, osl⟩ ∧ PySem.W.codeIn K cdv qual = true
  kp : PySem.W.keepIn K (.ref f) = true
section
variable {P : Program} {w : World} {K : PySem.W.Frag} {mg : Str → Option Value} {base : Heap}
theorem Fun.ok {x qual : Str} {st : Stmt} {f : Addr} {fd : FuncData} {N ps : List Str} {k : Nat} {sp : Sp} (F : Fun K x qual st f fd) (S : FnScope N ps (defScope st)) (len : ∀ vs H Q E, sp vs H Q E → vs.length = ps.length)
    (hbody : ∀ (cdv : Value) (A : Around) (outer : List Env) (s : Shared) (H : Hp) (vs : List V) (Q : VK) (E : XK), Room k (A.deeper (envOfC qual (defScope st) s.heap.objs.size f cdv)) → sp vs H Q E →
      ∃ t, PSs (cxOf CX0 P w K mg base N qual (defScope st) f cdv A outer s H E).nox (defBody st) t ∧ t { nx := fun _ H' => Q .non H', rt := Q } (start N vs) H) : FnOk P w K mg base CX0 (k + 1) f fd ps sp := by
  obtain ⟨oc, od, kV, doc, pm, an, cdv, ct, osl, rfl, lk, hcd⟩ := F.ex
  refine fn_of lk hcd S len fun A outer s H vs Q E hr hsp => ?_
  obtain ⟨t, h, q⟩ := hbody cdv A outer s H vs Q E hr hsp
  exact ⟨t, h.nox, q⟩
theorem Fun.binds {x qual : Str} {st : Stmt} {f : Addr} {fd : FuncData} {ps : List Str} (F : Fun K x qual st f fd)
    (h : ∀ (kV doc pm : Value) (an : Option Addr) (cdv ct : Value) (us : List Value), us.length = ps.length → bindArgs (PySem.W.fnOf x qual (defArgs st) (defBody st) (defScope st) .none kV doc pm an cdv ct) ⟨us, []⟩ = pure (ps.zip us)) : Binds K fd ps [] := by
  obtain ⟨oc, od, kV, doc, pm, an, cdv, ct, osl, rfl, lk, hcd⟩ := F.ex
  exact .all (h kV doc pm an cdv ct)
theorem fun_mk {x qual : Str} {st : Stmt} {f : Addr} {oc : Value} {od an : Option Addr} {osl : Array (Option Value)} {kV doc pm cdv ct : Value} (l : K.lookup f = some ⟨oc, od, .func (PySem.W.fnOf x qual (defArgs st) (defBody st) (defScope st) .none kV doc pm an cdv ct), osl⟩)
    (c : PySem.W.codeIn K cdv qual = true) (k : PySem.W.keepIn K (.ref f) = true) : Fun K x qual st f (PySem.W.fnOf x qual (defArgs st) (defBody st) (defScope st) .none kV doc pm an cdv ct) := ⟨⟨oc, od, kV, doc, pm, an, cdv, ct, osl, rfl, l, c⟩, k⟩
end
section
variable {X : Cx}
theorem pv (i : Nat) {x : Str} {pos : Pos} (hN : X.N[i]? = some x := by rfl) (hv : Vis X.env.scope x := by first | exact Or.inl rfl | exact Or.inr (Or.inl rfl) | exact Or.inr (Or.inr rfl)) (hd : (x == ("__debug__" : Str)) = false := by decide)
    (hcd : (x == ("__classdict__" : Str)) = false := by decide) : PE X (.Name x pos) (tVar i) := pe_var hN hv hd hcd
end
def Same (H H' : Hp) : Prop := ∀ b o, H b = some o → H' b = some o
theorem Same.refl (H : Hp) : Same H H := fun _ _ h => h
theorem Same.trans {H H1 H2 : Hp} (a : Same H H1) (b : Same H1 H2) : Same H H2 := fun c o h => b c o (a c o h)
theorem Same.free {H H' : Hp} (e : Same H H') {l : Addr} (h : H' l = Option.none) : H l = Option.none := by
  cases q : H l with
  | none => rfl
  | some o =>
    rw [e l o q] at h
    cases h
theorem Same.seq {K : PySem.W.Frag} {H H' : Hp} {a : Addr} {xs : List V} (e : Same H H') (h : SqL K H a xs) : SqL K H' a xs := by
  rcases h with (h | ⟨o, h⟩) | h
  · exact .inl (.inl (e _ _ h))
  · exact .inl (.inr ⟨o, e _ _ h⟩)
  · exact .inr h
section
variable {κ : Type} [DecidableEq κ]
theorem nd_snoc : ∀ {l : List κ} {k : κ}, l.Nodup → ¬ k ∈ l → (l ++ [k]).Nodup
  | [], k, _, _ => by simp
  | a :: r, k, h, hk => by
    obtain ⟨h1, h2⟩ := List.nodup_cons.mp h
    show (a :: (r ++ [k])).Nodup
    refine List.nodup_cons.mpr ⟨fun m => ?_, nd_snoc h2 fun m => hk (List.mem_cons.mpr (Or.inr m))⟩
    rcases List.mem_append.mp m with q | q
    · exact h1 q
    · exact hk (List.mem_cons.mpr (Or.inl (List.mem_singleton.mp q).symm))
end
theorem Same.made {H H1 : Hp} {x dx C : Addr} (nx : H x = Option.none) (nd : H dx = Option.none) (k : ∀ b o, (upd (upd H dx (.own x)) x (.ins C dx [])) b = some o → b ≠ x → H1 b = some o) : Same H H1 := fun b o e =>
  k b o (by rw [upd_ne (ne_of_none e nx), upd_ne (ne_of_none e nd)]; exact e) (ne_of_none e nx)
end L2
/-! The head: an OpenSpec of one list of whole numbers, answered by one, from the promise of its def. -/
namespace MK
open PySem PySem.W PySem.Calls PyProof.Rows L2

theorem reads_ints {R : WRecords} {cl : Str → Option Addr} {h : Heap} : ∀ {vs : List Value} {ns : List Int}, IntsAre vs ns → ReadsAllW R cl h vs (ns.map WData.int) []
  | _, _, .nil => .nil
  | _, _, .cons n t r => .cons (as := []) (bs := []) (.int n t) (reads_ints r)

/-- the run of the def at a list of ints that nobody may change -/
theorem spec_run {P : Program} {w : World} {K : PySem.W.Frag} {mg mb : Str → Option Value} {k : Nat} {fa a : Addr} {fd : FuncData} {x : Str} {sp : Sp} {s₁ : Shared} {vs : List Value} {ns out : List Int}
    (KX : K.In s₁.heap) (hns : s₁.heap.Ns mainGlobals mg) (hb : s₁.heap.Ns builtinsNs mb) (hbb : ∀ x : Str, x ≠ "__name__" → mb x = bootBuiltins x) (hlim : s₁.heap.NoLimit) (hg : s₁.gens = #[])
    (ha : s₁.heap.get? a = some { cls := .type "list", data := .seq vs.toArray }) (hi : IntsAre vs ns) (hl : ns.length ≤ sizeLine) (hr : Room k callerA)
    (F : ∀ base : Heap, K.In base → base.Ns mainGlobals mg → FnOk P w K mg base CX0 k fa fd [x] sp) (hbind : ∀ (s : Shared) (u : Value), BindsTo s fd ⟨[u], []⟩ [(x, u)])
    (hsp : ∀ H : Hp, Only H → SqL K H a (ns.map V.int) → sp [.ref a] H (fun v H' => ∃ b, v = .ref b ∧ H' b = some (.lst (out.map V.int))) fun _ _ _ => False) :
    codeAny (model P w) callerA (.call (.ref fa) ⟨[.ref a], []⟩) (fun r s' => (∃ b its n, r = .ok (.ret (.ref b)) ∧ s'.heap.get? b = some { cls := .type "list", data := .seq its n } ∧ IntsAre its.toList out) ∧ OldK s₁.heap s'.heap ∧ s'.os = s₁.os ∧ AllBare s'.gens) s₁ := by
  have rv := vals_ints hi
  have lenV := hi.length
  have core : ∀ H : Hp, Only H → SqL K H a (ns.map V.int) → HOk P w H s₁.heap → (∀ b, H b ≠ none → b = a) → (H a ≠ none → K.lookup a = none) →
      codeAny (model P w) callerA (.call (.ref fa) ⟨[.ref a], []⟩) (fun r s' => (∃ b its n, r = .ok (.ret (.ref b)) ∧ s'.heap.get? b = some { cls := .type "list", data := .seq its n } ∧ IntsAre its.toList out) ∧ OldK s₁.heap s'.heap ∧ s'.os = s₁.os ∧ AllBare s'.gens) s₁ := by
    intro H hO hS hok hA hK
    have base_of : ∀ {b : Addr} {o : Obj}, s₁.heap.get? b = some o → H b = none → (hidT s₁.heap H).get? b = some o := fun e n => hidT_get e n
    have noA : ∀ {b : Addr} {o : Obj} {es : Array DictEntry} {ep : Nat}, s₁.heap.get? b = some o → o.data = .dict es ep → H b = none := fun {b o es ep} e d => by
      cases q : H b with
      | none => rfl
      | some u =>
        have e' : b = a := hA b (by rw [q]; simp)
        subst e'
        rw [ha] at e; cases e
        have d' : Data.seq vs.toArray _ = Data.dict es ep := d
        cases d'
    have nsK : ∀ {b : Addr} {m : Str → Option Value}, s₁.heap.Ns b m → (hidT s₁.heap H).Ns b m := fun {b m} ⟨o, es, ep, e, d, r⟩ => ⟨o, es, ep, base_of e (noA e d), d, r⟩
    have hKb : K.In (hidT s₁.heap H) := fun b o e => base_of (KX b o e) (by
      cases q : H b with
      | none => rfl
      | some u =>
        have e' : b = a := hA b (by rw [q]; simp)
        subst e'
        rw [hK (by rw [q]; simp)] at e; cases e)
    have hM : Mod K mg (hidT s₁.heap H) := ⟨hKb, nsK hns, ⟨mb, nsK hb, hbb⟩, let ⟨mc, h1, h2⟩ := hlim; ⟨mc, nsK h1, h2⟩⟩
    have e0 : Env0 P w K mg (hidT s₁.heap H) callerA [] s₁ H := ⟨rfl, hM, fun b o e => of_hidT e, Nat.le_of_eq (hidT_size _ _), trivial, fun b hb => absurd (show b ∈ ([] : List Addr) from hb) (by simp), hok, .of_eq hg⟩
    refine codeAny_mono ((F _ hKb (nsK hns)).run callerA [] s₁ H ⟨[.ref a], []⟩ [.ref a] [.ref a] _ _ hr e0 (hbind s₁ (.ref a)) (.cons rfl .nil) (hsp H hO hS)) fun r s' h => ?_
    cases r with
    | error e => exact False.elim h
    | ok fl =>
      cases fl with
      | next => exact False.elim h
      | brk => exact False.elim h
      | cont => exact False.elim h
      | ret u =>
        obtain ⟨v, H', os, bare, un, hok', r', q⟩ := h
        obtain ⟨b, q1, q2⟩ := q
        subst q1
        obtain rfl : u = Value.ref b := r'
        obtain ⟨_, its, n, rvs, hget⟩ := hok' b _ q2
        refine ⟨⟨b, its.toArray, n, rfl, hget, ?_⟩, OldK.of_keep fun b o e => ?_, os, bare⟩
        · exact intsAre_of rvs
        · cases q : H b with
          | none => exact un.keep b o e q (by intro z; exact absurd (show b ∈ ([] : List Addr) from z) (by simp)) (by simp)
          | some u =>
            rcases hO b with z | ⟨ob, xs, z⟩
            · rw [q] at z; cases z
            · have z2 := un.frzs b ob _ z
              obtain ⟨e1, _⟩ := hok b _ z
              obtain ⟨e2, _⟩ := hok' b _ z2
              rw [e] at e1; cases e1
              exact e2
  cases hk : K.lookup a with
  | some o =>
    have e := KX a o hk
    rw [ha] at e
    cases e
    refine core (fun _ => none) (fun _ => .inl rfl) (.inr ⟨_, vs.toArray, _, hk, rfl, rfl, rfl, by rw [List.size_toArray, lenV]; exact hl, by simpa using rv⟩) (fun b u z => by have z' : (none : Option HO) = some u := z; cases z') (fun b z => absurd rfl z) fun z => absurd rfl z
  | none =>
    refine core (fun b => if b = a then some (.frz { cls := .type "list", data := .seq vs.toArray } (.lst (ns.map V.int))) else none) (fun b => ?_) (.inl (.inr ⟨{ cls := .type "list", data := .seq vs.toArray }, if_pos rfl⟩)) (fun b u z => ?_) (fun b z => ?_) fun _ => hk
    · by_cases hb : b = a
      · exact .inr ⟨_, _, if_pos hb⟩
      · exact .inl (if_neg hb)
    · by_cases hb : b = a
      · have z' := (if_pos hb).symm.trans z
        cases z'
        subst hb
        exact ⟨ha, by rw [List.length_map]; exact hl, vs, _, rv, ha⟩
      · have z' := (if_neg hb).symm.trans z
        cases z'
    · by_cases hb : b = a
      · exact hb
      · exact absurd (if_neg hb) z

/-- what k_headS leaves (case hc), from the promise of the def -/
theorem spec_walk {P : Program} {nm : Str} {least most l2 m2 : Nat} {lo hi lo2 hi2 : Int} {asked : List Int → Bool} {f : List Int → List Int}
    {k : Nat} {q : Program} {loose : List Str} {XP : (Str → Option Value) → Heap → Prop} {YP : World → Heap → Prop} {d : DefRec} {K : Params → PySem.W.Frag} {sp : PySem.W.Frag → Sp} {x : Str}
    (said : (OpenSpec.mk P nm [.list least most (.int lo hi)] (.list l2 m2 (.int lo2 hi2)) asked f).wellSaid = true)
    (hm : most ≤ sizeLine) (hdf : d.params.defaults = []) (hr : Room k callerA)
    (hY : ∀ (w : World) (h : Heap), YP w h → (K w.params).In h)
    (F : ∀ (w : World) (mg : Str → Option Value) (fa : Addr) (h : Heap), (K w.params).In h → h.Ns mainGlobals mg → mg d.name = some (.ref fa) →
      ∃ fd : FuncData, (∀ (s : Shared) (u : Value), BindsTo s fd ⟨[u], []⟩ [(x, u)]) ∧
        ∀ base : Heap, (K w.params).In base → base.Ns mainGlobals mg → FnOk P w (K w.params) mg base CX0 k fa fd [x] (sp (K w.params)))
    (hsp : ∀ (K : PySem.W.Frag) (H : Hp) (a : Addr) (ns : List Int), ns.length ≤ most → (∀ z ∈ ns, lo ≤ z ∧ z ≤ hi) → asked ns = true → Only H → SqL K H a (ns.map V.int) →
      sp K [.ref a] H (fun v H' => ∃ b, v = .ref b ∧ H' b = some (.lst ((f ns).map V.int))) fun _ _ _ => False) :
    WalkOS q loose XP YP (OpenSpec.mk P nm [.list least most (.int lo hi)] (.list l2 m2 (.int lo2 hi2)) asked f) d [] (fun f vs => PySem.call f vs) := by
  intro w s₀ s₁ mg mb G Y fa o pm cd doc dV kV ho hd hcd hD hmg hg args vals as hpre hlay hrd hwl hlo
  obtain ⟨⟨ns, u⟩, hwi, hask, harg⟩ := os_pre said hpre
  have hwi' : (Codec.list least most (.int lo hi)).within ns = true := (Codec.and_of (show ((Codec.list least most (.int lo hi)).within ns && _) = true from hwi)).1
  have hask' : asked ns = true := hask
  have h1 := Codec.and_of (show (Codec.inLen least most ns && ns.all (Codec.inInt lo hi)) = true from hwi')
  have hlen : ns.length ≤ most := (Codec.inNat_iff.mp (show Codec.inNat least most ns.length = true from h1.1)).2
  have hall : ∀ z ∈ ns, lo ≤ z ∧ z ≤ hi := fun z hz => Codec.inInt_iff.mp (List.all_eq_true.mp h1.2 z hz)
  have harg' : args = [WData.list (ns.map WData.int)] := harg
  subst harg'
  obtain ⟨a, vs, rfl, hobj, hints⟩ : ∃ a vs, vals = [Value.ref a] ∧ s₁.heap.get? a = some { cls := .type "list", data := .seq vs.toArray } ∧ IntsAre vs ns := by
    cases hwl with
    | cons w1 w2 =>
      cases w2
      cases w1 with
      | list ho hall => exact ⟨_, _, rfl, ho, Att.ints_of_wellAll ns _ hall⟩
  have KX := hY w _ Y
  obtain ⟨fd, hb, hF⟩ := F w mg fa _ KX G.T.g hmg
  refine enter_call (codeAny_mono (spec_run (out := f ns) KX G.T.g G.T.b G.T.builtins G.T.nolimit hg hobj hints (Nat.le_trans hlen hm) hr hF hb (fun H hO hS => hsp _ H a ns hlen hall hask' hO hS)) fun r s' hq => ?_)
  obtain ⟨⟨b, its, n, rfl, hget, hI⟩, h2, h3, h4⟩ := hq
  refine ⟨.inl ⟨.ref b, .list ((f ns).map WData.int), [b], rfl, fun _ => rfl, ?_, ?_, fun z => nomatch z⟩, h2, h3, h4⟩
  · exact .list (as := []) hget rfl rfl (reads_ints hI)
  · exact os_shut said (a := (ns, u)) hwi rfl
end MK

/-! Rules, readings and the laid world: what does not hang on the program's text. -/
namespace MK
open PySem PySem.Spec PyProof.Rows L2
section
variable {X : Cx}

/-- a constant of the module -/
def GC (mg : Str → Option Value) (x : Str) (v : V) : Prop := ∃ u, mg x = some u ∧ RelV v u
theorem pe_gc {x : Str} {v : V} {pos : Pos} (hg : Gl X x) (h : GC X.mg x v) (hd : (x == ("__debug__" : Str)) = false := by decide) : PE X (.Name x pos) (tC v) := by
  obtain ⟨u, hm, r⟩ := h
  exact pe_glob hg hm r hd
/-- len of a list or a tuple -/
def rLen (K : PySem.W.Frag) : List V → Hp → VK → Prop := fun xs H Q => ∃ p ys, xs = [.ref p] ∧ (SqL K H p ys ∨ SqT K H p ys) ∧ Q (.int ys.length) H
theorem call_lenK : CallR X (.builtin "len") (rLen X.K) := call_len_seq
/-- xs[i] of a list, by values -/
theorem get_list : PGet X (rIxL X.K) := by
  intro pins s σ H x y v u Q I rx ry h
  obtain ⟨p, xs, i, z, rfl, rfl, hq, he, q⟩ := h
  cases rx
  obtain ⟨t, rfl⟩ := ry
  obtain ⟨its, r, pl, hz⟩ := I.list hq
  obtain ⟨j, h1, h2, h3, h4, h5⟩ := atI_get he
  obtain ⟨w, ew, rw'⟩ := r.get h2
  have hl := r.length
  have hn := line63
  have fin : EP X pins σ Q w s := ⟨z, H, I, rw', q⟩
  by_cases h0 : 0 ≤ i
  · have hj : i.toNat = j := by
      rw [seqIndex_of h0 h5] at h1
      exact Option.some.inj h1
    exact wpAny_getItem_list pl.isList h0 (by omega) (by rw [hj]; simpa using ew) fin
  · have hj : (i + (its.toArray.size : Int)).toNat = j := by
      rw [seqIndex_neg (by omega) h4] at h1
      rw [List.size_toArray, ← hl]
      exact Option.some.inj h1
    exact wpAny_getItem_list_neg pl.isList (by omega) (by rw [List.size_toArray] <;> omega) (by omega) (by rw [hj]; simpa using ew) fin
/-- xs.count(k), ints -/
def rCount (K : PySem.W.Frag) : V → List V → Hp → VK → Prop := fun x vs H Q => ∃ (a : Addr) (ns : List Int) (k : Int), x = .ref a ∧ vs = [.int k] ∧ SqL K H a (ns.map V.int) ∧ Q (.int (ns.count k : Nat)) H
theorem mt_countI : MtR X "list.count" (rCount X.K) := by
  intro pins s σ H x xs v us Q I rx rxs h
  obtain ⟨a, ns, k, rfl, rfl, hs, q⟩ := h
  cases rx
  cases rxs with
  | cons ry rt =>
    cases rt
    obtain ⟨t, rfl⟩ := ry
    obtain ⟨its, rv, pl, hlen⟩ := I.list hs
    exact count_list_ints pl.isList (intsAre_of rv) ⟨.int (ns.count k : Nat), H, I.tok _, ⟨_, rfl⟩, q⟩
/-- the same of a tracked list alone: what stands there is one thing -/
def rIxP : R2 := fun x y H Q => ∃ p xs i v, x = .ref p ∧ y = .int i ∧ H p = some (.lst xs) ∧ atI xs i = some v ∧ Q v H
theorem rIxP.of {K : PySem.W.Frag} {x y : V} {H : Hp} {Q : VK} (h : rIxP x y H Q) : rIxL K x y H Q := by
  obtain ⟨p, xs, i, v, e1, e2, h, e, q⟩ := h
  exact ⟨p, xs, i, v, e1, e2, .of h, e, q⟩
theorem ix_listP : IxR X rIxP := fun value slice pins s σ H x y v u Q I rx ry h hs => ix_list value slice pins s σ H x y v u Q I rx ry h.of hs
theorem get_listP : PGet X rIxP := fun pins s σ H x y v u Q I rx ry h => get_list pins s σ H x y v u Q I rx ry h.of
def rCountP : V → List V → Hp → VK → Prop := fun x vs H Q => ∃ (a : Addr) (ns : List Int) (k : Int), x = .ref a ∧ vs = [.int k] ∧ H a = some (.lst (ns.map V.int)) ∧ Q (.int (ns.count k : Nat)) H
theorem mt_countP : MtR X "list.count" rCountP := fun pins s σ H x xs v us Q I rx rxs ⟨a, ns, k, e1, e2, h, q⟩ => mt_countI pins s σ H x xs v us Q I rx rxs ⟨a, ns, k, e1, e2, .of h, q⟩
/-- x in xs: an int, a tracked list of ints -/
def rInP : R2 := fun x y H Q => ∃ (p : Addr) (ns : List Int) (i : Int), x = .int i ∧ y = .ref p ∧ H p = some (.lst (ns.map V.int)) ∧ Q (.bl (decide (i ∈ ns))) H
theorem flat_ints : ∀ {ns : List Int}, (ns.map V.int).all flatV = true
  | [] => rfl
  | _ :: r => by
    rw [List.map_cons, List.all_cons, flat_ints (ns := r)]
    rfl
theorem inV_ints {i : Int} : ∀ {ns : List Int}, inV (.int i) (ns.map V.int) = decide (i ∈ ns)
  | [] => by simp [inV]
  | a :: r => by
    have h := inV_ints (i := i) (ns := r)
    unfold inV at h ⊢
    rw [List.map_cons, List.any_cons, h]
    have e : eqV (.int a) (.int i) = (a == i) := rfl
    rw [e]
    by_cases q : a = i
    · subst q
      simp
    · have q' : ¬ i = a := fun z => q z.symm
      rw [beq_eq_false_iff_ne.mpr q]
      simp [q']
theorem op_inP : OpR X (compareOp .In) rInP := by
  intro pins s σ H x y v u Q I rx ry h
  obtain ⟨p, ns, i, rfl, rfl, hp, q⟩ := h
  refine op_in_seq pins s σ H _ _ v u Q I rx ry ⟨p, _, rfl, .inl (.of hp), rfl, flat_ints, ?_⟩
  simp only [Bool.false_eq_true, if_false, inV_ints]
  exact q
/-- len of a tracked list -/
def rLenP : List V → Hp → VK → Prop := fun xs H Q => ∃ p ys, xs = [.ref p] ∧ H p = some (.lst ys) ∧ Q (.int (ys.length : Nat)) H
theorem call_lenP : CallR X (.builtin "len") rLenP := by
  intro pins s σ H xs us Q I r h
  obtain ⟨p, ys, rfl, hp, q⟩ := h
  exact call_lenK pins s σ H _ us Q I r ⟨p, ys, rfl, .inl (.of hp), q⟩
/-- a slice of a tracked list -/
def rSlP : V → Option Int → Option Int → Hp → VK → Prop := fun x lo hi H Q => ∃ a xs, x = .ref a ∧ H a = some (.lst xs) ∧ ∀ p, H p = none → Q (.ref p) (upd H p (.lst (cutV xs lo hi)))
theorem sl_listP : SlR X rSlP := by
  intro pins s σ H x v vl vu lo hi sl Q I rx hs pl pu h
  obtain ⟨a, xs, rfl, ha, q⟩ := h
  exact sl_list pins s σ H _ v vl vu lo hi sl Q I rx hs pl pu ⟨a, xs, rfl, .of ha, q⟩
/-- sum of a tracked list of ints -/
def rSumP : List V → Hp → VK → Prop := fun xs H Q => ∃ (p : Addr) (ns : List Int), xs = [.ref p] ∧ H p = some (.lst (List.map V.int ns)) ∧ Q (.int ns.sum) H
theorem call_sumP (hc : X.calm = true) : CallR X (.builtin "sum") rSumP := by
  intro pins s σ H xs us Q I r h
  obtain ⟨p, ns, rfl, hp, q⟩ := h
  obtain ⟨u, rfl, rx⟩ := vals1 r
  cases rx
  obtain ⟨its, rv, pl, hz⟩ := I.list (SqL.of hp)
  have hi : IntsAre its ns := intsAre_of rv
  obtain ⟨xs, hx⟩ := hi.allInts.items
  have hl' : s.heap.IsList p (intItems xs) := hx ▸ pl.isList
  refine sum_intListG (I.ok.hd hc) hl' fun h' tk t' hk => ?_
  have e1 : ns = xs.toList.map (·.1) := by
    rw [← nums_intItems, ← hx]
    exact (show numsOf its.toArray.toList = ns from hi.numsOf).symm
  have e2 : preSum (numAt xs) xs.size = ns.sum := by
    rw [preSum_eq, List.take_of_length_le (by simp), e1]
  rw [e2]
  exact ⟨.int ns.sum, H, I.kept hk, ⟨_, rfl⟩, q⟩
/-- all of a tracked list of bools -/
def rAllP : List V → Hp → VK → Prop := fun xs H Q => ∃ (p : Addr) (bs : List Bool), xs = [.ref p] ∧ H p = some (.lst (List.map V.bl bs)) ∧ Q (.bl (bs.all id)) H
theorem bls_get : ∀ {bs : List Bool} {its : List Value}, Vals (bs.map V.bl) its → its.length = bs.length ∧ ∀ (i : Nat) v, its[i]? = some v → ∃ b, bs[i]? = some b ∧ v = .bool b
  | [], _, .nil => ⟨rfl, fun i v h => by simp at h⟩
  | b :: r, _ :: us, .cons r1 r2 => by
    obtain ⟨h1, h2⟩ := bls_get r2
    cases r1
    refine ⟨by simp [h1], fun i v h => ?_⟩
    cases i with
    | zero => exact ⟨b, by simp, by simpa using h.symm⟩
    | succ i => simpa using h2 i v (by simpa using h)
theorem all_range : ∀ (bs : List Bool), ((List.range bs.length).all fun i => (bs[i]?).getD true) = bs.all id := fun bs => by
  rw [Bool.eq_iff_iff, List.all_eq_true, List.all_eq_true]
  constructor
  · intro h b hb
    obtain ⟨i, hi, rfl⟩ := List.getElem_of_mem hb
    have := h i (List.mem_range.mpr hi)
    simpa [List.getElem?_eq_getElem hi] using this
  · intro h i hi
    have hi' := List.mem_range.mp hi
    simp only [List.getElem?_eq_getElem hi', Option.getD_some]
    exact h _ (List.getElem_mem hi')
theorem call_allP (hc : X.calm = true) : CallR X (.builtin "all") rAllP := by
  intro pins s σ H xs us Q I r h
  obtain ⟨p, bs, rfl, hp, q⟩ := h
  obtain ⟨u, rfl, rx⟩ := vals1 r
  cases rx
  obtain ⟨its, rv, pl, hz⟩ := I.list (SqL.of hp)
  obtain ⟨hlen, hget⟩ := bls_get rv
  have hl := pl.isList
  have hlt : p < s.heap.objs.size := by obtain ⟨_, e, _⟩ := hl; exact Heap.lt_size e
  refine call_all_walk (wpAny_pyIter_list hl ?_)
  refine ⟨s.heap.objs.size, [s.heap.objs.size, p], [s.heap.objs.size], its.toArray.size, _, _, fun i => (bs[i]?).getD true, rfl, Walks.list (A := X.A.in1) (I.ok.hd hc) _ p (Nat.ne_of_lt hlt) its.toArray,
    ⟨⟨_, Heap.get?_push_size _ rfl, rfl, rfl⟩, hl.push _⟩, fun i v s' Q' E' hP hQ => ?_, fun h' tk hk => ?_⟩
  · obtain ⟨b, e, rfl⟩ := hget i v (by simpa using hP)
    simp only [e, Option.getD_some] at hQ
    exact wpAny_truthy_bool hQ
  · have e : ((List.range its.toArray.size).all fun i => (bs[i]?).getD true) = bs.all id := by
      rw [List.size_toArray, hlen]; exact all_range bs
    rw [e]
    refine ⟨.bl (bs.all id), H, I.kept fun b x e => hk b x (fun hm => ?_) (Heap.get?_push_of_some _ e), rfl, q⟩
    rw [List.mem_singleton.mp hm] at e
    exact Nat.lt_irrefl _ (Heap.lt_size e)
/-- min of a tracked list of two ints -/
def rMinP : List V → Hp → VK → Prop := fun xs H Q => ∃ p i j, xs = [.ref p] ∧ H p = some (.lst [.int i, .int j]) ∧ Q (.int (if j < i then j else i)) H
theorem call_minP (hc : X.calm = true) : CallR X (.builtin "min") rMinP := by
  intro pins s σ H xs us Q I r h
  obtain ⟨p, a, b, rfl, hp, q⟩ := h
  obtain ⟨u, rfl, rx⟩ := vals1 r
  cases rx
  obtain ⟨its, rv, pl, hz⟩ := I.list (SqL.of hp)
  obtain ⟨v1, v2, rfl, ⟨t, rfl⟩, ⟨u, rfl⟩⟩ := vals2 rv
  have hl' : s.heap.IsList p (intItems #[(a, t), (b, u)]) := by
    have := pl.isList
    simpa [intItems] using this
  refine min_intList (I.ok.hd hc) hl' (by simp) fun v h' tk hP hk => ?_
  have hv : v = if b < a then Value.int b u else Value.int a t := by
    have hP' : (intItems #[(a, t), (b, u)])[argBest (fun i j => decide (numAt #[(a, t), (b, u)] i < numAt #[(a, t), (b, u)] j)) 1]? = some v := hP
    by_cases hba : b < a
    · have e : argBest (fun i j => decide (numAt #[(a, t), (b, u)] i < numAt #[(a, t), (b, u)] j)) 1 = 1 := by simp [argBest, numAt, hba]
      rw [e] at hP'
      simpa [intItems, hba] using hP'.symm
    · have e : argBest (fun i j => decide (numAt #[(a, t), (b, u)] i < numAt #[(a, t), (b, u)] j)) 1 = 0 := by simp [argBest, numAt, hba]
      rw [e] at hP'
      simpa [intItems, hba] using hP'.symm
  rw [hv]
  refine ⟨_, H, I.kept hk, ?_, q⟩
  by_cases hj : b < a
  · rw [if_pos hj, if_pos hj]; exact ⟨_, rfl⟩
  · rw [if_neg hj, if_neg hj]; exact ⟨_, rfl⟩
def rMaxI : List V → Hp → VK → Prop := fun xs H Q => ∃ i j, xs = [.int i, .int j] ∧ Q (.int (if j > i then j else i)) H
theorem call_maxI (hc : X.calm = true) : CallR X (.builtin "max") rMaxI := call_max2 hc
end
section
variable {H : Hp} {Q : VK} {QH : Hp → Prop} {p : Addr} {xs : List V} {i : Int} {v : V}
theorem g_ix (h : H p = some (.lst xs)) : rIxP (.ref p) (.int i) H Q = ∃ v, atI xs i = some v ∧ Q v H := by
  refine propext ⟨fun ⟨p', xs', i', v, e1, e2, h', e, q⟩ => ?_, fun ⟨v, e, q⟩ => ⟨p, xs, i, v, rfl, rfl, h, e, q⟩⟩
  cases e1; cases e2
  rw [h] at h'; cases h'
  exact ⟨v, e, q⟩
theorem g_set (h : H p = some (.lst xs)) : rSetL (.ref p) (.int i) v H QH = ∃ j, ixN xs.length i = some j ∧ QH (upd H p (.lst (xs.set j v))) := by
  refine propext ⟨fun ⟨p', xs', i', j, e1, e2, h', e, q⟩ => ?_, fun ⟨j, e, q⟩ => ⟨p, xs, i, j, rfl, rfl, h, e, q⟩⟩
  cases e1; cases e2
  rw [h] at h'; cases h'
  exact ⟨j, e, q⟩
theorem map_int_inj : ∀ {l k : List Int}, l.map V.int = k.map V.int → l = k
  | [], [], _ => rfl
  | [], _ :: _, h => by simp at h
  | _ :: _, [], h => by simp at h
  | a :: r, b :: t, h => by
    simp only [List.map_cons, List.cons.injEq, V.int.injEq] at h
    rw [h.1, map_int_inj h.2]
theorem g_count {ns : List Int} {k : Int} (h : H p = some (.lst (ns.map V.int))) : rCountP (.ref p) [.int k] H Q = Q (.int (ns.count k : Nat)) H := by
  refine propext ⟨fun ⟨a, ns', k', e1, e2, h', q⟩ => ?_, fun q => ⟨p, ns, k, rfl, rfl, h, q⟩⟩
  cases e1; cases e2
  rw [h] at h'
  have e : ns' = ns := map_int_inj (HO.lst.inj (Option.some.inj h')).symm
  subst e
  exact q
theorem g_in {ns : List Int} {k : Int} (h : H p = some (.lst (ns.map V.int))) : rInP (.int k) (.ref p) H Q = Q (.bl (decide (k ∈ ns))) H := by
  refine propext ⟨fun ⟨a, ns', k', e1, e2, h', q⟩ => ?_, fun q => ⟨p, ns, k, rfl, rfl, h, q⟩⟩
  cases e1; cases e2
  rw [h] at h'
  have e : ns' = ns := map_int_inj (HO.lst.inj (Option.some.inj h')).symm
  subst e
  exact q
theorem g_len (h : H p = some (.lst xs)) : rLenP [.ref p] H Q = Q (.int (xs.length : Nat)) H := by
  refine propext ⟨fun ⟨a, ys, e1, h', q⟩ => ?_, fun q => ⟨p, xs, rfl, h, q⟩⟩
  cases e1
  rw [h] at h'
  cases h'
  exact q
theorem g_sl {lo hi : Option Int} (h : H p = some (.lst xs)) : rSlP (.ref p) lo hi H Q = ∀ q, H q = none → Q (.ref q) (upd H q (.lst (cutV xs lo hi))) := by
  refine propext ⟨fun ⟨a, ys, e1, h', q⟩ => ?_, fun q => ⟨p, xs, rfl, h, q⟩⟩
  cases e1
  rw [h] at h'
  cases h'
  exact q
theorem g_app {y : V} (h : H p = some (.lst xs)) (hl : xs.length < sizeLine) : rAppend (.ref p) [y] H Q = Q .non (upd H p (.lst (xs ++ [y]))) := by
  refine propext ⟨fun ⟨a, ys, z, e1, e2, h', _, q⟩ => ?_, fun q => ⟨p, xs, y, rfl, rfl, h, hl, q⟩⟩
  cases e1; cases e2
  rw [h] at h'
  cases h'
  exact q
theorem app_ints {l : List Int} {z : Int} : l.map V.int ++ [V.int z] = (l ++ [z]).map V.int := by rw [List.map_append]; rfl
theorem g_sum {ns : List Int} (h : H p = some (.lst (ns.map V.int))) : rSumP [.ref p] H Q = Q (.int ns.sum) H := by
  refine propext ⟨fun ⟨a, ns', e1, h', q⟩ => ?_, fun q => ⟨p, ns, rfl, h, q⟩⟩
  cases e1
  rw [h] at h'
  have e : ns' = ns := map_int_inj (HO.lst.inj (Option.some.inj h')).symm
  subst e
  exact q
theorem g_min {a b : Int} (h : H p = some (.lst [.int a, .int b])) : rMinP [.ref p] H Q = Q (.int (if b < a then b else a)) H := by
  refine propext ⟨fun ⟨q, i, j, e1, h', k⟩ => ?_, fun q => ⟨p, a, b, rfl, h, q⟩⟩
  cases e1
  rw [h] at h'
  cases h'
  exact k
theorem x_max {i j : Int} : rMaxI [.int i, .int j] H Q = Q (.int (if j > i then j else i)) H := propext ⟨fun ⟨_, _, e, q⟩ => by cases e; exact q, fun q => ⟨i, j, rfl, q⟩⟩
theorem x_some {P : V → Prop} : (∃ w, some v = some w ∧ P w) = P v := propext ⟨fun ⟨_, e, h⟩ => by cases e; exact h, fun h => ⟨v, rfl, h⟩⟩
theorem x_someN {j : Nat} {P : Nat → Prop} : (∃ w, some j = some w ∧ P w) = P j := propext ⟨fun ⟨_, e, h⟩ => by cases e; exact h, fun h => ⟨j, rfl, h⟩⟩
theorem at2_0 {x y : V} : atI [x, y] 0 = some x := rfl
theorem at2_1 {x y : V} : atI [x, y] 1 = some y := rfl
theorem ixN_in {n : Nat} (h0 : 0 ≤ i) (h1 : i < n) : ixN n i = some i.toNat := by unfold ixN; rw [if_pos h0, if_pos h1]
theorem at_ints {l : List Int} (h0 : 0 ≤ i) (h1 : i < l.length) : atI (l.map V.int) i = some (.int (l.getD i.toNat 0)) := by
  unfold atI
  rw [List.length_map, ixN_in h0 h1]
  have hj : i.toNat < l.length := by omega
  simp [List.getElem?_eq_getElem hj]
theorem at_bls {l : List Bool} (h0 : 0 ≤ i) (h1 : i < l.length) : atI (l.map V.bl) i = some (.bl (l.getD i.toNat false)) := by
  unfold atI
  rw [List.length_map, ixN_in h0 h1]
  have hj : i.toNat < l.length := by omega
  simp [List.getElem?_eq_getElem hj]
theorem set_ints {l : List Int} {j : Nat} {z : Int} : (l.map V.int).set j (.int z) = (l.set j z).map V.int := by rw [List.map_set]
theorem set_bls {l : List Bool} {j : Nat} {z : Bool} : (l.map V.bl).set j (.bl z) = (l.set j z).map V.bl := by rw [List.map_set]
end

/-! ### readings, as equations -/
section
variable {D : Ends} {σ : L2.St} {H : Hp} {Q : VK} {QB : Bool → Hp → Prop} {QA : List V → Hp → Prop} {K : PySem.W.Frag} {ta tb te to ti tv : TE} {tt tu : TT} {ts us : TS} {tas : TA} {f m : Str}
theorem q_seq : tSeq ts us D σ H = ts { D with nx := us D } σ H := rfl
theorem q_next : tNext D σ H = D.nx σ H := rfl
theorem q_drop : tDrop te D σ H = te σ H fun _ H1 => D.nx σ H1 := rfl
theorem q_ret : tRet te D σ H = te σ H D.rt := rfl
theorem q_retN : tRetN D σ H = D.rt .non H := rfl
theorem q_ifS : tIfS tt ts us D σ H = tt σ H fun b H1 => if b = true then ts D σ H1 else us D σ H1 := rfl
theorem q_asgN {i : Nat} : tAsg te (gName i) D σ H = te σ H fun x H1 => D.nx (σ.set i (some x)) H1 := rfl
theorem q_asgS {g : TSet} : tAsg te (gSub to ti g) D σ H = te σ H fun v H1 => to σ H1 fun o H2 => ti σ H2 fun i H3 => g o i v H3 fun H4 => D.nx σ H4 := rfl
def gFld (K : PySem.W.Frag) (f : Str) (x : V) (H : Hp) (Q : VK) : Prop := ∃ a C dx fs v, x = .ref a ∧ H a = some (.ins C dx fs) ∧ Cls K C ∧ NoAttr K C f ∧ fs.lookup f = some v ∧ Q v H
def gPut (K : PySem.W.Frag) (f : Str) (x y : V) (H : Hp) (Q : Hp → Prop) : Prop := ∃ a C dx fs, x = .ref a ∧ H a = some (.ins C dx fs) ∧ Cls K C ∧ NoAttr K C f ∧ fs.length < 1000 ∧ Q (upd H a (.ins C dx (putF f y fs)))
theorem q_fld : tFld K ta f σ H Q = ta σ H fun x H1 => gFld K f x H1 Q := rfl
theorem q_put : sFld K ta tv f D σ H = tv σ H fun y H1 => ta σ H1 fun x H2 => gPut K f x y H2 (D.nx σ) := rfl
def gAug (K : PySem.W.Frag) (f : Str) (tv : TE) (rd : V → V → Hp → VK → Prop) (σ : L2.St) (x : V) (H : Hp) (Q : Hp → Prop) : Prop := ∃ a C dx fs v, x = .ref a ∧ H a = some (.ins C dx fs) ∧ Cls K C ∧ NoAttr K C f ∧ fs.lookup f = some v ∧
  tv σ H fun y H2 => rd v y H2 fun z H3 => ∃ dx' fs', H3 a = some (.ins C dx' fs') ∧ fs'.length < 1000 ∧ Q (upd H3 a (.ins C dx' (putF f z fs')))
theorem q_aug {rd : V → V → Hp → VK → Prop} : sFldAug K ta tv rd f D σ H = ta σ H fun x H1 => gAug K f tv rd σ x H1 (D.nx σ) := rfl
theorem q_augS {g : V → V → Hp → VK → Prop} {ip : TIp} {st : TSet} : tAugS to ti te g ip st D σ H = to σ H fun o H1 => ti σ H1 fun i H2 => g o i H2 fun x H3 => te σ H3 fun y H4 => ip x y H4 fun z H5 => st o i z H5 fun H6 => D.nx σ H6 := rfl
theorem q_augN {i : Nat} {ip : TIp} : tAug i te ip D σ H = tVar i σ H fun x H1 => te σ H1 fun y H2 => ip x y H2 fun z H3 => D.nx (σ.set i (some z)) H3 := rfl
theorem q_C {v : V} : tC v σ H Q = Q v H := rfl
theorem q_add : tAdd ta tb σ H Q = ta σ H fun x H1 => tb σ H1 fun y H2 => ∃ i j, x = .int i ∧ y = .int j ∧ Q (.int (i + j)) H2 := rfl
theorem q_sub : tSub ta tb σ H Q = ta σ H fun x H1 => tb σ H1 fun y H2 => ∃ i j, x = .int i ∧ y = .int j ∧ Q (.int (i - j)) H2 := rfl
theorem q_cmp {p : Int → Int → Bool} : tCmp p ta tb σ H Q = ta σ H fun x H1 => tb σ H1 fun y H2 => ∃ i j, x = .int i ∧ y = .int j ∧ Q (.bl (p i j)) H2 := rfl
theorem q_isN : tIsN ta σ H Q = ta σ H fun x H1 => Q (.bl (decide (x = .non))) H1 := rfl
theorem q_notN : tNotN ta σ H Q = ta σ H fun x H1 => Q (.bl (!decide (x = .non))) H1 := rfl
theorem q_B : tB ta σ H QB = ta σ H fun x H1 => ∃ c, x = .bl c ∧ QB c H1 := rfl
theorem q_test : tTest ta σ H QB = ta σ H fun x H1 => ∃ c, x = .bl c ∧ QB c H1 := rfl
theorem q_and : tAnd tt tu σ H QB = tt σ H fun c H1 => if c = true then tu σ H1 QB else QB false H1 := rfl
theorem q_or : tOr tt tu σ H QB = tt σ H fun c H1 => if c = true then QB true H1 else tu σ H1 QB := rfl
theorem q_not : tNot tt σ H QB = tt σ H fun c H1 => QB (!c) H1 := rfl
theorem q_andV : tAndV ta tb σ H Q = ta σ H fun x H1 => ∃ c, x = .bl c ∧ if c = true then tb σ H1 Q else Q (.bl false) H1 := rfl
theorem q_orV : tOrV ta tb σ H Q = ta σ H fun x H1 => ∃ c, x = .bl c ∧ if c = true then Q (.bl true) H1 else tb σ H1 Q := rfl
theorem q_notV : tNotV ta σ H Q = ta σ H fun x H1 => ∃ c, x = .bl c ∧ Q (.bl (!c)) H1 := rfl
theorem q_if : tIf tt ta tb σ H Q = tt σ H fun c H1 => if c = true then ta σ H1 Q else tb σ H1 Q := rfl
theorem q_op {r : R2} : tOp r ta tb σ H Q = ta σ H fun x H1 => tb σ H1 fun y H2 => r x y H2 Q := rfl
theorem q_un {r : V → Hp → VK → Prop} : tUn r ta σ H Q = ta σ H fun x H1 => r x H1 Q := rfl
theorem q_nil : tNil σ H QA = QA [] H := rfl
theorem q_cons : tCons ta tas σ H QA = ta σ H fun x H1 => tas σ H1 fun xs H2 => QA (x :: xs) H2 := rfl
theorem q_call {sp : Sp} {dvs : List V} {E : XK} : tCall sp dvs E tas σ H Q = tas σ H fun vs H1 => sp (vs ++ dvs) H1 Q E := rfl
/-- the object is of the class, and has no attribute of the method's name -/
def gMeth (C : Addr) (m : Str) (x : V) (H : Hp) (P : Prop) : Prop := ∃ a dx fs, x = .ref a ∧ H a = some (.ins C dx fs) ∧ fs.lookup m = none ∧ P
theorem q_meth {C : Addr} {sp : Sp} {dvs : List V} {E : XK} : tMeth C m sp dvs E ta tas σ H Q = ta σ H fun x H1 => gMeth C m x H1 (tas σ H1 fun vs H2 => sp (x :: (vs ++ dvs)) H2 Q E) := rfl
theorem q_make {C : Addr} {sp : Sp} {dvs : List V} {E : XK} : tMake C sp dvs E tas σ H Q = tas σ H fun vs H1 => ∀ x dx, H1 x = none → H1 dx = none → dx ≠ x →
  sp (.ref x :: (vs ++ dvs)) (upd (upd H1 dx (.own x)) x (.ins C dx [])) (fun v H2 => v = .non ∧ Q (.ref x) H2) E := rfl
theorem q_sl {r : V → Option Int → Option Int → Hp → VK → Prop} {tl th : TO} : tSl r te tl th σ H Q = te σ H fun x H1 => tl σ H1 fun l H2 => th σ H2 fun u H3 => r x l u H3 Q := rfl
theorem q_part {QO : Option Int → Hp → Prop} : tPart te σ H QO = te σ H fun x H1 => ∃ i, x = .int i ∧ QO (some i) H1 := rfl
theorem q_noPart {QO : Option Int → Hp → Prop} : tNoPart σ H QO = QO none H := rfl
theorem q_yes : tYes σ H QB = QB true H := rfl
theorem q_cb {r : List V → Hp → VK → Prop} : tCB r tas σ H Q = tas σ H fun vs H1 => r vs H1 Q := rfl
theorem q_bm {T : String} {r : V → List V → Hp → VK → Prop} : tBM K T r to tas σ H Q = to σ H fun x H1 => tyV K T x H1 ∧ tas σ H1 fun xs H2 => r x xs H2 Q := rfl
theorem q_bm0 {T : String} {r : V → List V → Hp → VK → Prop} : tBM0 K T r to σ H Q = to σ H fun x H1 => tyV K T x H1 ∧ r x [] H1 Q := rfl
def gNew (xs : List V) (H : Hp) (Q : VK) : Prop := xs.length ≤ sizeLine ∧ ∀ p, H p = none → Q (.ref p) (upd H p (.lst xs))
theorem q_lst : tLst tas σ H Q = tas σ H fun xs H1 => gNew xs H1 Q := rfl

theorem q_var0 {v : V} {r : L2.St} : tVar 0 (some v :: r) H Q = Q v H := propext ⟨fun ⟨_, e, h⟩ => by cases e; exact h, fun h => ⟨v, rfl, h⟩⟩
theorem q_varS {n : Nat} {x : Option V} {r : L2.St} : tVar (n + 1) (x :: r) H Q = tVar n r H Q := rfl
theorem q_varL {n : Nat} {x : Option V} {r : L2.St} : tVar (OfNat.ofNat (n + 1)) (x :: r) H Q = tVar n r H Q := rfl

/-! values -/
theorem x_int {i : Int} {P : Int → Prop} : (∃ k, V.int i = V.int k ∧ P k) = P i := propext ⟨fun ⟨_, e, h⟩ => by cases e; exact h, fun h => ⟨i, rfl, h⟩⟩
theorem x_int2 {i j : Int} {P : Int → Int → Prop} : (∃ k l, V.int i = V.int k ∧ V.int j = V.int l ∧ P k l) = P i j := propext ⟨fun ⟨_, _, e, e', h⟩ => by cases e; cases e'; exact h, fun h => ⟨i, j, rfl, rfl, h⟩⟩
theorem x_bl {b : Bool} {P : Bool → Prop} : (∃ k, V.bl b = V.bl k ∧ P k) = P b := propext ⟨fun ⟨_, e, h⟩ => by cases e; exact h, fun h => ⟨b, rfl, h⟩⟩
theorem x_rI0 {g : Int → Int → V} {i j : Int} : rI0 g (.int i) (.int j) H Q = Q (g i j) H := propext ⟨fun ⟨_, _, e, e', h⟩ => by cases e; cases e'; exact h, fun h => ⟨i, j, rfl, rfl, h⟩⟩
theorem x_rI {C : Int → Int → Prop} {g : Int → Int → V} {i j : Int} : rI C g (.int i) (.int j) H Q = (C i j ∧ Q (g i j) H) := propext ⟨fun ⟨_, _, e, e', h⟩ => by cases e; cases e'; exact h, fun h => ⟨i, j, rfl, rfl, h⟩⟩
theorem x_rU {g : Int → V} {i : Int} : rU g (.int i) H Q = Q (g i) H := propext ⟨fun ⟨_, e, h⟩ => by cases e; exact h, fun h => ⟨i, rfl, h⟩⟩
theorem x_eqI {i j : Int} : rEq (.int i) (.int j) H Q = Q (.bl (decide (i = j))) H := propext ⟨fun h => by have := h.2; simpa using this, fun h => ⟨rfl, by simpa using h⟩⟩
theorem x_neI {i j : Int} : rNe (.int i) (.int j) H Q = Q (.bl (!decide (i = j))) H := propext ⟨fun h => by have := h.2; simpa using this, fun h => ⟨rfl, by simpa using h⟩⟩
theorem x_eqB {i j : Bool} : rEq (.bl i) (.bl j) H Q = Q (.bl (decide (i = j))) H := propext ⟨fun h => by have := h.2; simpa using this, fun h => ⟨rfl, by simpa using h⟩⟩
theorem x_neB {i j : Bool} : rNe (.bl i) (.bl j) H Q = Q (.bl (!decide (i = j))) H := propext ⟨fun h => by have := h.2; simpa using this, fun h => ⟨rfl, by simpa using h⟩⟩
theorem x_rAdd {i j : Int} : rAdd (.int i) (.int j) H Q = Q (.int (i + j)) H := propext ⟨fun ⟨_, _, e, e', h⟩ => by cases e; cases e'; exact h, fun h => ⟨i, j, rfl, rfl, h⟩⟩
theorem x_rSub {i j : Int} : rSub (.int i) (.int j) H Q = Q (.int (i - j)) H := propext ⟨fun ⟨_, _, e, e', h⟩ => by cases e; cases e'; exact h, fun h => ⟨i, j, rfl, rfl, h⟩⟩
theorem x_ipI {g : Int → Int → Int} {i j : Int} : ipI g (.int i) (.int j) H Q = Q (.int (g i j)) H := propext ⟨fun ⟨_, _, e, e', h⟩ => by cases e; cases e'; exact h, fun h => ⟨i, j, rfl, rfl, h⟩⟩
/-! tests -/
theorem i_dec {p A B : Prop} [Decidable p] : (if decide p = true then A else B) = if p then A else B := by by_cases h : p <;> simp [h]
theorem i_ndec {p A B : Prop} [Decidable p] : (if (!decide p) = true then A else B) = if p then B else A := by by_cases h : p <;> simp [h]
theorem i_t {A B : Prop} : (if true = true then A else B) = A := if_pos rfl
theorem i_f {A B : Prop} : (if false = true then A else B) = B := if_neg Bool.false_ne_true
theorem i_nb {b : Bool} {A B : Prop} : (if (!b) = true then A else B) = if b = true then B else A := by cases b <;> simp
end

/-! ### the laid world -/
def lay (A : Nat → Addr) : List HO → Nat → Hp → Hp
  | [], _, H => H
  | o :: r, k, H => upd (lay A r (k + 1) H) (A k) o
def Good (n : Nat) (A : Nat → Addr) : Prop := ∀ i j, i < n → j < n → A i = A j → i = j
def Out (n : Nat) (A : Nat → Addr) (b : Addr) : Prop := ∀ i, i < n → b ≠ A i
section
variable {A : Nat → Addr} {H : Hp} {n : Nat}
theorem lay_out' {b : Addr} : ∀ (cs : List HO) (k : Nat), (∀ i, k ≤ i → i < k + cs.length → b ≠ A i) → lay A cs k H b = H b
  | [], _, _ => rfl
  | o :: r, k, h => by
    unfold lay
    rw [upd_ne (h k (Nat.le_refl _) (by simp)), lay_out' r (k + 1) fun i h1 h2 => h i (by omega) (by simp only [List.length_cons]; omega)]
theorem lay_at' (g : Good n A) {o : HO} : ∀ (cs : List HO) (k i : Nat), k + cs.length ≤ n → cs[i]? = some o → lay A cs k H (A (k + i)) = some o
  | [], _, _, _, e => by simp at e
  | c :: r, k, 0, hn, e => by
    have : c = o := by simpa using e
    subst this
    exact upd_same
  | c :: r, k, i + 1, hn, e => by
    have e' : r[i]? = some o := by simpa using e
    have hi : i < r.length := (List.getElem?_eq_some_iff.mp e').1
    simp only [List.length_cons] at hn
    have := lay_at' g r (k + 1) i (by omega) e'
    unfold lay
    rw [upd_ne fun q => by have := g _ _ (by omega) (by omega) q; omega, show k + (i + 1) = k + 1 + i by omega]
    exact this
theorem lay_out {cs : List HO} {b : Addr} (hn : cs.length = n) (h : Out n A b) : lay A cs 0 H b = H b := lay_out' cs 0 fun i _ h2 => h i (by omega)
theorem lay_at {cs : List HO} {i : Nat} {o : HO} (g : Good n A) (hn : cs.length = n) (e : cs[i]? = some o) : lay A cs 0 H (A i) = some o := by
  have := lay_at' (H := H) g cs 0 i (by omega) e
  rwa [Nat.zero_add] at this
theorem out_or (b : Addr) : Out n A b ∨ ∃ i, i < n ∧ b = A i := by
  by_cases h : ∃ i, i < n ∧ b = A i
  · exact .inr h
  · exact .inl fun i hi e => h ⟨i, hi, e⟩
theorem lay_eq {cs : List HO} {F : Hp} (g : Good n A) (hn : cs.length = n) (h1 : ∀ i, i < n → F (A i) = cs[i]?) (h2 : ∀ b, Out n A b → F b = H b) : F = lay A cs 0 H := by
  funext b
  rcases out_or (n := n) (A := A) b with h | ⟨i, hi, rfl⟩
  · rw [h2 b h, lay_out hn h]
  · rw [h1 i hi]
    have e : cs[i]? = some cs[i] := List.getElem?_eq_getElem (by omega)
    rw [e, lay_at g hn e]
theorem lay_set {cs : List HO} {i : Nat} {o : HO} (g : Good n A) (hn : cs.length = n) (hi : i < n) : upd (lay A cs 0 H) (A i) o = lay A (cs.set i o) 0 H := by
  refine lay_eq g (by rw [List.length_set]; exact hn) (fun j hj => ?_) fun b hb => ?_
  · by_cases e : j = i
    · subst e
      rw [upd_same, List.getElem?_set_self (by omega)]
    · rw [upd_ne fun q => e (g _ _ hj hi q), List.getElem?_set_ne fun q => e q.symm]
      have e' : cs[j]? = some cs[j] := List.getElem?_eq_getElem (by omega)
      rw [e', lay_at g hn e']
  · rw [upd_ne (hb i hi), lay_out hn hb]
theorem lay_upd {cs : List HO} {b : Addr} {o : HO} (g : Good n A) (hn : cs.length = n) (hb : Out n A b) : upd (lay A cs 0 H) b o = lay A cs 0 (upd H b o) := by
  refine lay_eq g hn (fun j hj => ?_) fun c hc => ?_
  · have e' : cs[j]? = some cs[j] := List.getElem?_eq_getElem (by omega)
    rw [upd_ne fun q => hb j hj q.symm, e', lay_at g hn e']
  · by_cases e : c = b
    · subst e
      rw [upd_same, upd_same]
    · rw [upd_ne e, upd_ne e, lay_out hn hc]
theorem lay_none {cs : List HO} {b : Addr} (g : Good n A) (hn : cs.length = n) (h : lay A cs 0 H b = none) : Out n A b ∧ H b = none := by
  have hb : Out n A b := fun i hi e => by
    subst e
    have e' : cs[i]? = some cs[i] := List.getElem?_eq_getElem (by omega)
    rw [lay_at g hn e'] at h
    cases h
  exact ⟨hb, by rwa [lay_out hn hb] at h⟩
/-- the i-th place moved to a new address -/
def moved (A : Nat → Addr) (i : Nat) (p : Addr) : Nat → Addr := fun j => if j = i then p else A j
theorem moved_good {i : Nat} {p : Addr} (g : Good n A) (hp : Out n A p) : Good n (moved A i p) := by
  intro j k hj hk e
  unfold moved at e
  by_cases h1 : j = i
  · by_cases h2 : k = i
    · omega
    · rw [if_pos h1, if_neg h2] at e
      exact absurd e (hp k hk)
  · by_cases h2 : k = i
    · rw [if_neg h1, if_pos h2] at e
      exact absurd e.symm (hp j hj)
    · rw [if_neg h1, if_neg h2] at e
      exact g j k hj hk e
theorem lay_move {cs : List HO} {i : Nat} {p : Addr} {o u : HO} (g : Good n A) (hn : cs.length = n) (hi : i < n) (hu : cs[i]? = some u) (hp : Out n A p) :
    upd (lay A cs 0 H) p o = lay (moved A i p) (cs.set i o) 0 (upd H (A i) u) := by
  refine lay_eq (moved_good g hp) (by rw [List.length_set]; exact hn) (fun j hj => ?_) fun b hb => ?_
  · by_cases e : j = i
    · subst e
      rw [show moved A j p j = p from if_pos rfl, upd_same, List.getElem?_set_self (by omega)]
    · rw [show moved A i p j = A j from if_neg e, upd_ne fun q => hp j hj q.symm, List.getElem?_set_ne fun q => e q.symm]
      have e' : cs[j]? = some cs[j] := List.getElem?_eq_getElem (by omega)
      rw [e', lay_at g hn e']
  · have hbp : b ≠ p := by
      have := hb i hi
      rwa [show moved A i p i = p from if_pos rfl] at this
    rw [upd_ne hbp]
    by_cases e : b = A i
    · subst e
      rw [upd_same, lay_at g hn hu]
    · rw [upd_ne e, lay_out hn]
      intro j hj
      by_cases q : j = i
      · subst q; exact e
      · have := hb j hj
        rwa [show moved A i p j = A j from if_neg q] at this
end
theorem cut_take {l : List Int} {i : Int} (h : 0 ≤ i) : cutV (l.map V.int) none (some i) = (l.take i.toNat).map V.int := by
  obtain ⟨n, rfl⟩ : ∃ n : Nat, i = (n : Int) := ⟨i.toNat, by omega⟩
  unfold cutV
  rw [HT.sIx_nat, List.length_map]
  rw [show HT.sIx l.length 0 none = 0 from rfl, List.drop_zero, Nat.sub_zero, ← List.map_take, Int.toNat_natCast]
  congr 1
  by_cases q : n ≤ l.length
  · rw [Nat.min_eq_left q]
  · rw [Nat.min_eq_right (by omega), List.take_of_length_le (Nat.le_refl _), List.take_of_length_le (by omega)]
/-! ### laid one by one -/
def ext (A : Nat → Addr) (n : Nat) (p : Addr) : Nat → Addr := fun i => if i = n then p else A i
theorem lay_congr {A A' : Nat → Addr} {H : Hp} : ∀ (cs : List HO) (k : Nat), (∀ i, k ≤ i → i < k + cs.length → A i = A' i) → lay A cs k H = lay A' cs k H
  | [], _, _ => rfl
  | o :: r, k, h => by
    unfold lay
    rw [lay_congr r (k + 1) fun i h1 h2 => h i (by omega) (by simp only [List.length_cons]; omega), h k (Nat.le_refl _) (by simp)]
section
variable {A : Nat → Addr} {H : Hp} {n : Nat}
theorem push_good {cs : List HO} {p : Addr} (g : Good n A) (hn : cs.length = n) (h : lay A cs 0 H p = none) : Good (n + 1) (ext A n p) := by
  obtain ⟨ho, _⟩ := lay_none g hn h
  intro i j hi hj e
  unfold ext at e
  by_cases h1 : i = n
  · by_cases h2 : j = n
    · omega
    · rw [if_pos h1, if_neg h2] at e
      exact absurd e (ho j (by omega))
  · by_cases h2 : j = n
    · rw [if_neg h1, if_pos h2] at e
      exact absurd e.symm (ho i (by omega))
    · rw [if_neg h1, if_neg h2] at e
      exact g i j (by omega) (by omega) e
theorem lay_push {cs : List HO} {p : Addr} {o : HO} (g : Good n A) (hn : cs.length = n) (h : lay A cs 0 H p = none) : upd (lay A cs 0 H) p o = lay (ext A n p) (cs ++ [o]) 0 H := by
  obtain ⟨ho, _⟩ := lay_none g hn h
  refine lay_eq (push_good g hn h) (by rw [List.length_append, hn]; rfl) (fun i hi => ?_) fun b hb => ?_
  · by_cases e : i = n
    · subst e
      rw [show ext A i p i = p from if_pos rfl, upd_same, List.getElem?_append_right (by omega)]
      simp [hn]
    · rw [show ext A n p i = A i from if_neg e, upd_ne fun q => ho i (by omega) q.symm, List.getElem?_append_left (by omega)]
      have e' : cs[i]? = some cs[i] := List.getElem?_eq_getElem (by omega)
      rw [e', lay_at g hn e']
  · have hp : b ≠ p := by
      have := hb n (by omega)
      rwa [show ext A n p n = p from if_pos rfl] at this
    rw [upd_ne hp, lay_out hn]
    intro i hi q
    have := hb i (by omega)
    rw [show ext A n p i = A i from if_neg (by omega)] at this
    exact this q
theorem lay_self {cs : List HO} (g : Good n A) (hn : cs.length = n) (h : ∀ i, i < n → H (A i) = cs[i]?) : H = lay A cs 0 H := lay_eq g hn h fun _ _ => rfl
theorem upd_self {p : Addr} {o : HO} (h : H p = some o) : upd H p o = H := by
  funext b
  unfold upd
  split
  · rename_i e
    rw [e, h]
  · rfl
/-- a new object and its dict -/
theorem lay_make {cs : List HO} {x dx : Addr} {o : HO} (g : Good n A) (hn : cs.length = n) (hx : lay A cs 0 H x = none) (hd : lay A cs 0 H dx = none) (ne : dx ≠ x) :
    Good (n + 2) (ext (ext A n dx) (n + 1) x) ∧ upd (upd (lay A cs 0 H) dx (.own x)) x o = lay (ext (ext A n dx) (n + 1) x) (cs ++ [.own x, o]) 0 H ∧ H x = none ∧ H dx = none := by
  have e1 := lay_push (o := HO.own x) g hn hd
  have g1 := push_good g hn hd
  have h1 : lay (ext A n dx) (cs ++ [.own x]) 0 H x = none := by
    rw [← e1, upd_ne ne.symm]
    exact hx
  have hn1 : (cs ++ [HO.own x]).length = n + 1 := by rw [List.length_append, hn]; rfl
  refine ⟨push_good g1 hn1 h1, ?_, (lay_none g hn hx).2, (lay_none g hn hd).2⟩
  rw [e1, lay_push g1 hn1 h1, List.append_assoc]
  rfl
theorem out_of {B : Nat → Addr} {b : Addr} {o : HO} (h0 : b ≠ B 0) (hB : ∀ i, 0 < i → i < n → H (B i) = none) (hb : H b = some o) : Out n B b := fun i hi e => by
  by_cases q : i = 0
  · subst q; exact h0 e
  · have := hB i (by omega) hi
    rw [← e, hb] at this
    cases this
theorem out_list {l : List Addr} {p b : Addr} {o : HO} (hn : l.length = n) (h : ∀ x ∈ l, x = p ∨ H x = none) (hb : H b = some o) (ne : b ≠ p) : Out n (fun i => l.getD i 0) b := fun i hi e => by
  have hi' : i < l.length := by omega
  have e1 : l.getD i 0 = l[i] := by simp [List.getElem?_eq_getElem hi']
  have e2 : b = l[i] := (show b = l.getD i 0 from e).trans e1
  rcases h l[i] (List.getElem_mem hi') with q | q
  · exact ne (e2.trans q)
  · rw [← e2, hb] at q
    cases q
theorem list_good {l : List Addr} (h : l.Nodup) (hn : l.length = n) : Good n (fun i => l.getD i 0) := by
  intro i j hi hj e
  have hi' : i < l.length := by omega
  have hj' : j < l.length := by omega
  have e' : l[i] = l[j] := by
    have e1 : l.getD i 0 = l[i] := by simp [List.getElem?_eq_getElem hi']
    have e2 : l.getD j 0 = l[j] := by simp [List.getElem?_eq_getElem hj']
    exact e1.symm.trans ((show l.getD i 0 = l.getD j 0 from e).trans e2)
  exact (List.getElem_inj h).mp e'
theorem map_nodup (g : Good n A) : ∀ {l : List Nat}, l.Nodup → (∀ i ∈ l, i < n) → (l.map A).Nodup
  | [], _, _ => List.nodup_nil
  | i :: r, h, b => by
    obtain ⟨h1, h2⟩ := List.nodup_cons.mp h
    rw [List.map_cons]
    refine List.nodup_cons.mpr ⟨fun m => ?_, map_nodup g h2 fun j hj => b j (List.mem_cons_of_mem _ hj)⟩
    obtain ⟨j, hj, e⟩ := List.mem_map.mp m
    have := g j i (b j (List.mem_cons_of_mem _ hj)) (b i (List.mem_cons_self ..)) e
    subst this
    exact h1 hj
theorem out_map {b : Addr} {l : List Nat} (o : Out n A b) (h : ∀ i ∈ l, i < n) : ¬ b ∈ l.map A := fun m => by
  obtain ⟨j, hj, e⟩ := List.mem_map.mp m
  exact o j (h j hj) e.symm
theorem lay_one {p : Addr} {o : HO} (h : H p = some o) : H = lay (fun _ => p) [o] 0 H := (upd_self h).symm
theorem one_good {p : Addr} : Good 1 (fun _ => p) := fun i j hi hj _ => by omega
end
/-! ### an object's attributes, written out -/
theorem lk_hit {f : Str} {v : V} {r : List (Str × V)} : ((f, v) :: r).lookup f = some v := by simp [List.lookup]
theorem lk_miss {f g : Str} {v : V} {r : List (Str × V)} (h : ¬ f = g) : ((g, v) :: r).lookup f = r.lookup f := by
  have hb : (f == g) = false := beq_eq_false_iff_ne.mpr h
  simp only [List.lookup, hb]
theorem lk_nil {f : Str} : ([] : List (Str × V)).lookup f = none := rfl
theorem pf_hit {f : Str} {v x : V} {r : List (Str × V)} : putF f v ((f, x) :: r) = (f, v) :: r := if_pos rfl
theorem pf_miss {f g : Str} {v x : V} {r : List (Str × V)} (h : ¬ g = f) : putF f v ((g, x) :: r) = (g, x) :: putF f v r := if_neg h
theorem pf_nil {f : Str} {v : V} : putF f v [] = [(f, v)] := rfl
section
variable {K : PySem.W.Frag} {H : Hp} {Q : VK} {a C dx : Addr} {fs : List (Str × V)} {f m : Str} {v y : V} {QH : Hp → Prop} {P : Prop}
theorem g_fld (h : H a = some (.ins C dx fs)) (c : Cls K C) (na : NoAttr K C f) (l : fs.lookup f = some v) : gFld K f (.ref a) H Q = Q v H := by
  refine propext ⟨fun ⟨a', C', dx', fs', v', e, h', _, _, l', q⟩ => ?_, fun q => ⟨a, C, dx, fs, v, rfl, h, c, na, l, q⟩⟩
  cases e
  rw [h] at h'
  cases h'
  rw [l] at l'
  cases l'
  exact q
theorem g_put (h : H a = some (.ins C dx fs)) (c : Cls K C) (na : NoAttr K C f) (l : fs.length < 1000) : gPut K f (.ref a) y H QH = QH (upd H a (.ins C dx (putF f y fs))) := by
  refine propext ⟨fun ⟨a', C', dx', fs', e, h', _, _, _, q⟩ => ?_, fun q => ⟨a, C, dx, fs, rfl, h, c, na, l, q⟩⟩
  cases e
  rw [h] at h'
  cases h'
  exact q
theorem g_meth (h : H a = some (.ins C dx fs)) (l : fs.lookup m = none) : gMeth C m (.ref a) H P = P := by
  refine propext ⟨fun ⟨a', dx', fs', e, h', _, q⟩ => q, fun q => ⟨a, dx, fs, rfl, h, l, q⟩⟩
def gPutC (C : Addr) (f : Str) (a : Addr) (z : V) (H : Hp) (Q : Hp → Prop) : Prop := ∃ dx' fs', H a = some (.ins C dx' fs') ∧ fs'.length < 1000 ∧ Q (upd H a (.ins C dx' (putF f z fs')))
/-- o.f op= e -/
theorem g_aug {rd : V → V → Hp → VK → Prop} {tv : TE} {σ : L2.St} (h : H a = some (.ins C dx fs)) (c : Cls K C) (na : NoAttr K C f) (lk : fs.lookup f = some v) :
    gAug K f tv rd σ (.ref a) H QH = tv σ H fun y H2 => rd v y H2 fun z H3 => gPutC C f a z H3 QH := by
  refine propext ⟨fun ⟨a', C', dx', fs', v', e, h', _, _, l', q⟩ => ?_, fun q => ⟨a, C, dx, fs, v, rfl, h, c, na, lk, q⟩⟩
  cases e
  rw [h] at h'
  cases h'
  rw [lk] at l'
  cases l'
  exact q
/-- a store into the first of the laid cells -/
theorem p_putL {A : Nat → Addr} {n : Nat} {r : List HO} {p : Addr} (e : A 0 = p) (g : Good n A) (hn : r.length + 1 = n) (c : Cls K C) (na : NoAttr K C f) (l : fs.length < 1000)
    (q : QH (lay A (.ins C dx (putF f y fs) :: r) 0 H)) : gPut K f (.ref p) y (lay A (.ins C dx fs :: r) 0 H) QH := by
  subst e
  rw [g_put (lay_at (i := 0) g (by simpa using hn) rfl) c na l, lay_set g (by simpa using hn) (by omega)]
  exact q
/-- .. where others lie above them -/
theorem p_putI {A A' : Nat → Addr} {n k : Nat} {r cs : List HO} {p : Addr} (g' : Good k A') (hk : cs.length = k) (o : Out k A' p) (e : A 0 = p) (g : Good n A) (hn : r.length + 1 = n) (c : Cls K C) (na : NoAttr K C f) (l : fs.length < 1000)
    (q : QH (lay A' cs 0 (lay A (.ins C dx (putF f y fs) :: r) 0 H))) : gPut K f (.ref p) y (lay A' cs 0 (lay A (.ins C dx fs :: r) 0 H)) QH := by
  subst e
  have h : lay A' cs 0 (lay A (.ins C dx fs :: r) 0 H) (A 0) = some (.ins C dx fs) := by
    rw [lay_out hk o]
    exact lay_at (i := 0) g (by simpa using hn) rfl
  rw [g_put h c na l, lay_upd g' hk o, lay_set g (by simpa using hn) (by omega)]
  exact q
theorem g_putC (h : H a = some (.ins C dx fs)) (l : fs.length < 1000) : gPutC C f a y H QH = QH (upd H a (.ins C dx (putF f y fs))) := by
  refine propext ⟨fun ⟨dx', fs', h', _, q⟩ => ?_, fun q => ⟨dx, fs, h, l, q⟩⟩
  rw [h] at h'
  cases h'
  exact q
end
end MK

/-! The text by places: made by gen.py of the linked program. -/
namespace MK
open PySem PySem.Spec PyProof.Rows L2
def top (i : Nat) : Stmt := PySem.Challenge.pw_matchkeeper_s01_answers.main.body.getD i (.Pass ⟨0, 0, 0, 0⟩)
abbrev st_lengths_allowed : Stmt := top 20
abbrev st_minutes_rounded_up : Stmt := top 21
abbrev st_Clock_init : Stmt := inClass (top 22) 0
abbrev st_Clock_all_played : Stmt := inClass (top 22) 1
abbrev st_Clock_length : Stmt := inClass (top 22) 2
abbrev st_Clock_kick : Stmt := inClass (top 22) 3
abbrev st_Clock_tick : Stmt := inClass (top 22) 4
abbrev st_Clock_whistle : Stmt := inClass (top 22) 5
abbrev st_Clock_minute : Stmt := inClass (top 22) 6
abbrev st_other : Stmt := top 26
abbrev st_won_by : Stmt := top 27
abbrev st_first_places : Stmt := top 44
abbrev st_as_bits : Stmt := top 45
abbrev st_Field_init : Stmt := inClass (top 46) 0
abbrev st_Field_set_play : Stmt := inClass (top 46) 1
abbrev st_Field_is_standing : Stmt := inClass (top 46) 2
abbrev st_Field_is_on : Stmt := inClass (top 46) 3
abbrev st_Field_players_on : Stmt := inClass (top 46) 4
abbrev st_Field_too_few : Stmt := inClass (top 46) 5
abbrev st_Field_on : Stmt := inClass (top 46) 6
abbrev st_Field_card : Stmt := inClass (top 46) 7
abbrev st_Field_change : Stmt := inClass (top 46) 8
abbrev st_Field_change_refusal : Stmt := inClass (top 46) 9
abbrev st_Field_needs_window : Stmt := inClass (top 46) 10
abbrev st_Field_take_window : Stmt := inClass (top 46) 11
abbrev st_Field_goal : Stmt := inClass (top 46) 12
abbrev st_Kicks_init : Stmt := inClass (top 50) 0
abbrev st_Kicks_all_taken : Stmt := inClass (top 50) 1
abbrev st_Kicks_round_is_done : Stmt := inClass (top 50) 2
abbrev st_Kicks_must_wait : Stmt := inClass (top 50) 3
abbrev st_Kicks_take : Stmt := inClass (top 50) 4
abbrev st_Kicks_decided_for : Stmt := inClass (top 50) 5
abbrev st_Kicks_left : Stmt := inClass (top 50) 6
abbrev st_Game_init : Stmt := inClass (top 52) 0
abbrev st_Game_kick : Stmt := inClass (top 52) 1
abbrev st_Game_tick : Stmt := inClass (top 52) 2
abbrev st_Game_stop : Stmt := inClass (top 52) 3
abbrev st_Game_whistle : Stmt := inClass (top 52) 4
abbrev st_Game_settle : Stmt := inClass (top 52) 5
abbrev st_Game_card : Stmt := inClass (top 52) 6
abbrev st_Game_change : Stmt := inClass (top 52) 7
abbrev st_Game_goal : Stmt := inClass (top 52) 8
abbrev st_Game_first : Stmt := inClass (top 52) 9
abbrev st_Game_shoot : Stmt := inClass (top 52) 10
abbrev st_Game_shoot_refusal : Stmt := inClass (top 52) 11
abbrev st_Game_score : Stmt := inClass (top 52) 12
abbrev st_Game_on : Stmt := inClass (top 52) 13
abbrev st_Game_minute : Stmt := inClass (top 52) 14
abbrev st_answers : Stmt := top 68
abbrev st_numbers_of : Stmt := top 69
abbrev st_answer_of : Stmt := top 70
theorem sc_lengths_allowed : FnScope ["half", "extra"] ["half", "extra"] (defScope st_lengths_allowed) := ⟨rfl, rfl, rfl, by decide +kernel, rfl, by decide +kernel, by decide +kernel⟩
theorem sc_minutes_rounded_up : FnScope ["seconds"] ["seconds"] (defScope st_minutes_rounded_up) := ⟨rfl, rfl, rfl, by decide +kernel, rfl, by decide +kernel, by decide +kernel⟩
theorem sc_Clock_init : FnScope ["self", "half", "extra"] ["self", "half", "extra"] (defScope st_Clock_init) := ⟨rfl, rfl, rfl, by decide +kernel, rfl, by decide +kernel, by decide +kernel⟩
theorem sc_Clock_all_played : FnScope ["self"] ["self"] (defScope st_Clock_all_played) := ⟨rfl, rfl, rfl, by decide +kernel, rfl, by decide +kernel, by decide +kernel⟩
theorem sc_Clock_length : FnScope ["self"] ["self"] (defScope st_Clock_length) := ⟨rfl, rfl, rfl, by decide +kernel, rfl, by decide +kernel, by decide +kernel⟩
theorem sc_Clock_kick : FnScope ["self"] ["self"] (defScope st_Clock_kick) := ⟨rfl, rfl, rfl, by decide +kernel, rfl, by decide +kernel, by decide +kernel⟩
theorem sc_Clock_tick : FnScope ["self", "seconds", "standing"] ["self", "seconds", "standing"] (defScope st_Clock_tick) := ⟨rfl, rfl, rfl, by decide +kernel, rfl, by decide +kernel, by decide +kernel⟩
theorem sc_Clock_whistle : FnScope ["self"] ["self"] (defScope st_Clock_whistle) := ⟨rfl, rfl, rfl, by decide +kernel, rfl, by decide +kernel, by decide +kernel⟩
theorem sc_Clock_minute : FnScope ["self", "earlier", "beyond"] ["self"] (defScope st_Clock_minute) := ⟨rfl, rfl, rfl, by decide +kernel, rfl, by decide +kernel, by decide +kernel⟩
theorem sc_other : FnScope ["team"] ["team"] (defScope st_other) := ⟨rfl, rfl, rfl, by decide +kernel, rfl, by decide +kernel, by decide +kernel⟩
theorem sc_won_by : FnScope ["team"] ["team"] (defScope st_won_by) := ⟨rfl, rfl, rfl, by decide +kernel, rfl, by decide +kernel, by decide +kernel⟩
theorem sc_first_places : FnScope ["player"] [] (defScope st_first_places) := ⟨rfl, rfl, rfl, by decide +kernel, rfl, by decide +kernel, by decide +kernel⟩
theorem sc_as_bits : FnScope ["players", "bits", "weight", "player"] ["players"] (defScope st_as_bits) := ⟨rfl, rfl, rfl, by decide +kernel, rfl, by decide +kernel, by decide +kernel⟩
theorem sc_Field_init : FnScope ["self"] ["self"] (defScope st_Field_init) := ⟨rfl, rfl, rfl, by decide +kernel, rfl, by decide +kernel, by decide +kernel⟩
theorem sc_Field_set_play : FnScope ["self", "play"] ["self", "play"] (defScope st_Field_set_play) := ⟨rfl, rfl, rfl, by decide +kernel, rfl, by decide +kernel, by decide +kernel⟩
theorem sc_Field_is_standing : FnScope ["self"] ["self"] (defScope st_Field_is_standing) := ⟨rfl, rfl, rfl, by decide +kernel, rfl, by decide +kernel, by decide +kernel⟩
theorem sc_Field_is_on : FnScope ["self", "team", "player"] ["self", "team", "player"] (defScope st_Field_is_on) := ⟨rfl, rfl, rfl, by decide +kernel, rfl, by decide +kernel, by decide +kernel⟩
theorem sc_Field_players_on : FnScope ["self", "team", "player"] ["self", "team"] (defScope st_Field_players_on) := ⟨rfl, rfl, rfl, by decide +kernel, rfl, by decide +kernel, by decide +kernel⟩
theorem sc_Field_too_few : FnScope ["self", "team"] ["self", "team"] (defScope st_Field_too_few) := ⟨rfl, rfl, rfl, by decide +kernel, rfl, by decide +kernel, by decide +kernel⟩
theorem sc_Field_on : FnScope ["self", "team", "players"] ["self", "team"] (defScope st_Field_on) := ⟨rfl, rfl, rfl, by decide +kernel, rfl, by decide +kernel, by decide +kernel⟩
theorem sc_Field_card : FnScope ["self", "team", "player", "colour"] ["self", "team", "player", "colour"] (defScope st_Field_card) := ⟨rfl, rfl, rfl, by decide +kernel, rfl, by decide +kernel, by decide +kernel⟩
theorem sc_Field_change : FnScope ["self", "team", "leaving", "coming", "barred", "refusal"] ["self", "team", "leaving", "coming", "barred"] (defScope st_Field_change) := ⟨rfl, rfl, rfl, by decide +kernel, rfl, by decide +kernel, by decide +kernel⟩
theorem sc_Field_change_refusal : FnScope ["self", "team", "leaving", "coming", "barred"] ["self", "team", "leaving", "coming", "barred"] (defScope st_Field_change_refusal) := ⟨rfl, rfl, rfl, by decide +kernel, rfl, by decide +kernel, by decide +kernel⟩
theorem sc_Field_needs_window : FnScope ["self", "team"] ["self", "team"] (defScope st_Field_needs_window) := ⟨rfl, rfl, rfl, by decide +kernel, rfl, by decide +kernel, by decide +kernel⟩
theorem sc_Field_take_window : FnScope ["self", "team"] ["self", "team"] (defScope st_Field_take_window) := ⟨rfl, rfl, rfl, by decide +kernel, rfl, by decide +kernel, by decide +kernel⟩
theorem sc_Field_goal : FnScope ["self", "team", "player", "own", "scorer"] ["self", "team", "player", "own"] (defScope st_Field_goal) := ⟨rfl, rfl, rfl, by decide +kernel, rfl, by decide +kernel, by decide +kernel⟩
theorem sc_Kicks_init : FnScope ["self", "beginner"] ["self", "beginner"] (defScope st_Kicks_init) := ⟨rfl, rfl, rfl, by decide +kernel, rfl, by decide +kernel, by decide +kernel⟩
theorem sc_Kicks_all_taken : FnScope ["self"] ["self"] (defScope st_Kicks_all_taken) := ⟨rfl, rfl, rfl, by decide +kernel, rfl, by decide +kernel, by decide +kernel⟩
theorem sc_Kicks_round_is_done : FnScope ["self", "players_on", "player"] ["self", "players_on"] (defScope st_Kicks_round_is_done) := ⟨rfl, rfl, rfl, by decide +kernel, rfl, by decide +kernel, by decide +kernel⟩
theorem sc_Kicks_must_wait : FnScope ["self", "player", "players_on"] ["self", "player", "players_on"] (defScope st_Kicks_must_wait) := ⟨rfl, rfl, rfl, by decide +kernel, rfl, by decide +kernel, by decide +kernel⟩
theorem sc_Kicks_take : FnScope ["self", "player", "scored", "players_on", "team"] ["self", "player", "scored", "players_on"] (defScope st_Kicks_take) := ⟨rfl, rfl, rfl, by decide +kernel, rfl, by decide +kernel, by decide +kernel⟩
theorem sc_Kicks_decided_for : FnScope ["self", "team", "rival"] ["self"] (defScope st_Kicks_decided_for) := ⟨rfl, rfl, rfl, by decide +kernel, rfl, by decide +kernel, by decide +kernel⟩
theorem sc_Kicks_left : FnScope ["self", "team"] ["self", "team"] (defScope st_Kicks_left) := ⟨rfl, rfl, rfl, by decide +kernel, rfl, by decide +kernel, by decide +kernel⟩
theorem sc_Game_init : FnScope ["self", "half", "extra"] ["self", "half", "extra"] (defScope st_Game_init) := ⟨rfl, rfl, rfl, by decide +kernel, rfl, by decide +kernel, by decide +kernel⟩
theorem sc_Game_kick : FnScope ["self", "answer"] ["self"] (defScope st_Game_kick) := ⟨rfl, rfl, rfl, by decide +kernel, rfl, by decide +kernel, by decide +kernel⟩
theorem sc_Game_tick : FnScope ["self", "seconds"] ["self", "seconds"] (defScope st_Game_tick) := ⟨rfl, rfl, rfl, by decide +kernel, rfl, by decide +kernel, by decide +kernel⟩
theorem sc_Game_stop : FnScope ["self", "stop"] ["self", "stop"] (defScope st_Game_stop) := ⟨rfl, rfl, rfl, by decide +kernel, rfl, by decide +kernel, by decide +kernel⟩
theorem sc_Game_whistle : FnScope ["self", "answer"] ["self"] (defScope st_Game_whistle) := ⟨rfl, rfl, rfl, by decide +kernel, rfl, by decide +kernel, by decide +kernel⟩
theorem sc_Game_settle : FnScope ["self", "scored"] ["self"] (defScope st_Game_settle) := ⟨rfl, rfl, rfl, by decide +kernel, rfl, by decide +kernel, by decide +kernel⟩
theorem sc_Game_card : FnScope ["self", "team", "player", "colour", "answer"] ["self", "team", "player", "colour"] (defScope st_Game_card) := ⟨rfl, rfl, rfl, by decide +kernel, rfl, by decide +kernel, by decide +kernel⟩
theorem sc_Game_change : FnScope ["self", "team", "leaving", "coming"] ["self", "team", "leaving", "coming"] (defScope st_Game_change) := ⟨rfl, rfl, rfl, by decide +kernel, rfl, by decide +kernel, by decide +kernel⟩
theorem sc_Game_goal : FnScope ["self", "team", "player", "own"] ["self", "team", "player", "own"] (defScope st_Game_goal) := ⟨rfl, rfl, rfl, by decide +kernel, rfl, by decide +kernel, by decide +kernel⟩
theorem sc_Game_first : FnScope ["self", "team"] ["self", "team"] (defScope st_Game_first) := ⟨rfl, rfl, rfl, by decide +kernel, rfl, by decide +kernel, by decide +kernel⟩
theorem sc_Game_shoot : FnScope ["self", "team", "player", "scored", "refusal"] ["self", "team", "player", "scored"] (defScope st_Game_shoot) := ⟨rfl, rfl, rfl, by decide +kernel, rfl, by decide +kernel, by decide +kernel⟩
theorem sc_Game_shoot_refusal : FnScope ["self", "team", "player", "scored"] ["self", "team", "player", "scored"] (defScope st_Game_shoot_refusal) := ⟨rfl, rfl, rfl, by decide +kernel, rfl, by decide +kernel, by decide +kernel⟩
theorem sc_Game_score : FnScope ["self"] ["self"] (defScope st_Game_score) := ⟨rfl, rfl, rfl, by decide +kernel, rfl, by decide +kernel, by decide +kernel⟩
theorem sc_Game_on : FnScope ["self", "team"] ["self", "team"] (defScope st_Game_on) := ⟨rfl, rfl, rfl, by decide +kernel, rfl, by decide +kernel, by decide +kernel⟩
theorem sc_Game_minute : FnScope ["self"] ["self"] (defScope st_Game_minute) := ⟨rfl, rfl, rfl, by decide +kernel, rfl, by decide +kernel, by decide +kernel⟩
theorem sc_answers : FnScope ["calls", "answered", "game", "place", "call", "after", "handed", "numbers"] ["calls"] (defScope st_answers) := ⟨rfl, rfl, rfl, by decide +kernel, rfl, by decide +kernel, by decide +kernel⟩
theorem sc_numbers_of : FnScope ["game", "call", "handed"] ["game", "call", "handed"] (defScope st_numbers_of) := ⟨rfl, rfl, rfl, by decide +kernel, rfl, by decide +kernel, by decide +kernel⟩
theorem sc_answer_of : FnScope ["game", "call", "handed"] ["game", "call", "handed"] (defScope st_answer_of) := ⟨rfl, rfl, rfl, by decide +kernel, rfl, by decide +kernel, by decide +kernel⟩
structure Ad where
  c_Clock : Addr
  c_Field : Addr
  c_Kicks : Addr
  c_Game : Addr
  g_HANDED : Addr
  f_lengths_allowed : Addr
  d_lengths_allowed : FuncData
  f_minutes_rounded_up : Addr
  d_minutes_rounded_up : FuncData
  f_Clock_init : Addr
  d_Clock_init : FuncData
  f_Clock_all_played : Addr
  d_Clock_all_played : FuncData
  f_Clock_length : Addr
  d_Clock_length : FuncData
  f_Clock_kick : Addr
  d_Clock_kick : FuncData
  f_Clock_tick : Addr
  d_Clock_tick : FuncData
  f_Clock_whistle : Addr
  d_Clock_whistle : FuncData
  f_Clock_minute : Addr
  d_Clock_minute : FuncData
  f_other : Addr
  d_other : FuncData
  f_won_by : Addr
  d_won_by : FuncData
  f_first_places : Addr
  d_first_places : FuncData
  f_as_bits : Addr
  d_as_bits : FuncData
  f_Field_init : Addr
  d_Field_init : FuncData
  f_Field_set_play : Addr
  d_Field_set_play : FuncData
  f_Field_is_standing : Addr
  d_Field_is_standing : FuncData
  f_Field_is_on : Addr
  d_Field_is_on : FuncData
  f_Field_players_on : Addr
  d_Field_players_on : FuncData
  f_Field_too_few : Addr
  d_Field_too_few : FuncData
  f_Field_on : Addr
  d_Field_on : FuncData
  f_Field_card : Addr
  d_Field_card : FuncData
  f_Field_change : Addr
  d_Field_change : FuncData
  f_Field_change_refusal : Addr
  d_Field_change_refusal : FuncData
  f_Field_needs_window : Addr
  d_Field_needs_window : FuncData
  f_Field_take_window : Addr
  d_Field_take_window : FuncData
  f_Field_goal : Addr
  d_Field_goal : FuncData
  f_Kicks_init : Addr
  d_Kicks_init : FuncData
  f_Kicks_all_taken : Addr
  d_Kicks_all_taken : FuncData
  f_Kicks_round_is_done : Addr
  d_Kicks_round_is_done : FuncData
  f_Kicks_must_wait : Addr
  d_Kicks_must_wait : FuncData
  f_Kicks_take : Addr
  d_Kicks_take : FuncData
  f_Kicks_decided_for : Addr
  d_Kicks_decided_for : FuncData
  f_Kicks_left : Addr
  d_Kicks_left : FuncData
  f_Game_init : Addr
  d_Game_init : FuncData
  f_Game_kick : Addr
  d_Game_kick : FuncData
  f_Game_tick : Addr
  d_Game_tick : FuncData
  f_Game_stop : Addr
  d_Game_stop : FuncData
  f_Game_whistle : Addr
  d_Game_whistle : FuncData
  f_Game_settle : Addr
  d_Game_settle : FuncData
  f_Game_card : Addr
  d_Game_card : FuncData
  f_Game_change : Addr
  d_Game_change : FuncData
  f_Game_goal : Addr
  d_Game_goal : FuncData
  f_Game_first : Addr
  d_Game_first : FuncData
  f_Game_shoot : Addr
  d_Game_shoot : FuncData
  f_Game_shoot_refusal : Addr
  d_Game_shoot_refusal : FuncData
  f_Game_score : Addr
  d_Game_score : FuncData
  f_Game_on : Addr
  d_Game_on : FuncData
  f_Game_minute : Addr
  d_Game_minute : FuncData
  f_answers : Addr
  d_answers : FuncData
  f_numbers_of : Addr
  d_numbers_of : FuncData
  f_answer_of : Addr
  d_answer_of : FuncData
structure Txt (K : PySem.W.Frag) (mg : Str → Option Value) (a : Ad) : Prop where
  g_WAS_SENT_OFF : GC mg "WAS_SENT_OFF" (.int (-4))
  g_NO_PERIOD : GC mg "NO_PERIOD" (.int (-11))
  g_NO_KICKS : GC mg "NO_KICKS" (.int (-11))
  g_NOT_NOW : GC mg "NOT_NOW" (.int (-16))
  g_HAS_KICKED : GC mg "HAS_KICKED" (.int (-17))
  g_OUT_OF_RANGE : GC mg "OUT_OF_RANGE" (.int (-22))
  g_USED_UP : GC mg "USED_UP" (.int (-28))
  g_NO_WINDOW : GC mg "NO_WINDOW" (.int (-29))
  g_TOO_EARLY : GC mg "TOO_EARLY" (.int (-35))
  g_NOT_THEIR_TURN : GC mg "NOT_THEIR_TURN" (.int (-37))
  g_MATCH_OVER : GC mg "MATCH_OVER" (.int (-41))
  g_NOT_ON : GC mg "NOT_ON" (.int (-61))
  g_NOT_ON_BENCH : GC mg "NOT_ON_BENCH" (.int (-62))
  g_SHORTEST : GC mg "SHORTEST" (.int 60)
  g_LONGEST_HALF : GC mg "LONGEST_HALF" (.int 3600)
  g_LONGEST_EXTRA : GC mg "LONGEST_EXTRA" (.int 1800)
  g_LONGEST_TICK : GC mg "LONGEST_TICK" (.int 3600)
  g_MOST_SECONDS : GC mg "MOST_SECONDS" (.int 1000000)
  g_MINUTE_clock : GC mg "MINUTE_clock" (.int 60)
  g_LAST_TEAM : GC mg "LAST_TEAM" (.int 1)
  g_NOBODY : GC mg "NOBODY" (.int 0)
  g_PLAYERS : GC mg "PLAYERS" (.int 18)
  g_STARTERS : GC mg "STARTERS" (.int 11)
  g_FEWEST_ON : GC mg "FEWEST_ON" (.int 7)
  g_ON_field : GC mg "ON_field" (.int 1)
  g_BENCH : GC mg "BENCH" (.int 2)
  g_OUT : GC mg "OUT" (.int 3)
  g_SENT_OFF : GC mg "SENT_OFF" (.int 4)
  g_YELLOW : GC mg "YELLOW" (.int 0)
  g_RED : GC mg "RED" (.int 1)
  g_GOES_ON : GC mg "GOES_ON" (.int 0)
  g_STANDS : GC mg "STANDS" (.int 1)
  g_RESTS : GC mg "RESTS" (.int 2)
  g_MOST_CHANGES : GC mg "MOST_CHANGES" (.int 5)
  g_MOST_WINDOWS : GC mg "MOST_WINDOWS" (.int 3)
  g_MOST_GOALS : GC mg "MOST_GOALS" (.int 1000000)
  g_KICKS_EACH : GC mg "KICKS_EACH" (.int 5)
  g_MOST_KICKS : GC mg "MOST_KICKS" (.int 1000000)
  g_START : GC mg "START" (.int 0)
  g_KICK : GC mg "KICK" (.int 1)
  g_TICK : GC mg "TICK" (.int 2)
  g_STOP : GC mg "STOP" (.int 3)
  g_WHISTLE : GC mg "WHISTLE" (.int 4)
  g_CARD : GC mg "CARD" (.int 5)
  g_CHANGE : GC mg "CHANGE" (.int 6)
  g_GOAL : GC mg "GOAL" (.int 7)
  g_FIRST : GC mg "FIRST" (.int 8)
  g_SCORE : GC mg "SCORE" (.int 10)
  g_ON_referee : GC mg "ON_referee" (.int 11)
  g_MINUTE_referee : GC mg "MINUTE_referee" (.int 12)
  g_WON : GC mg "WON" (.int 13)
  g_HANDED : GC mg "HANDED" (.ref a.g_HANDED)
  s_HANDED : ∀ H : Hp, SqT K H a.g_HANDED [.int 2, .int 0, .int 1, .int 1, .int 0, .int 3, .int 3, .int 3, .int 1, .int 3, .int 0, .int 1, .int 0, .int 0]
  no_all : mg "all" = none
  no_len : mg "len" = none
  no_max : mg "max" = none
  no_min : mg "min" = none
  no_range : mg "range" = none
  no_sum : mg "sum" = none
  cl_Clock : Cls K a.c_Clock
  c_Clock : mg "Clock" = some (.ref a.c_Clock)
  mk_Clock : Mk K a.c_Clock a.f_Clock_init
  n_Clock_lengths : NoAttr K a.c_Clock "lengths"
  n_Clock_played : NoAttr K a.c_Clock "played"
  n_Clock_running : NoAttr K a.c_Clock "running"
  n_Clock_gone : NoAttr K a.c_Clock "gone"
  n_Clock_stood : NoAttr K a.c_Clock "stood"
  cl_Field : Cls K a.c_Field
  c_Field : mg "Field" = some (.ref a.c_Field)
  mk_Field : Mk K a.c_Field a.f_Field_init
  n_Field_places : NoAttr K a.c_Field "places"
  n_Field_booked : NoAttr K a.c_Field "booked"
  n_Field_play : NoAttr K a.c_Field "play"
  n_Field_changes : NoAttr K a.c_Field "changes"
  n_Field_windows : NoAttr K a.c_Field "windows"
  n_Field_in_window : NoAttr K a.c_Field "in_window"
  n_Field_scored : NoAttr K a.c_Field "scored"
  cl_Kicks : Cls K a.c_Kicks
  c_Kicks : mg "Kicks" = some (.ref a.c_Kicks)
  mk_Kicks : Mk K a.c_Kicks a.f_Kicks_init
  n_Kicks_turn : NoAttr K a.c_Kicks "turn"
  n_Kicks_taken : NoAttr K a.c_Kicks "taken"
  n_Kicks_hits : NoAttr K a.c_Kicks "hits"
  n_Kicks_in_round : NoAttr K a.c_Kicks "in_round"
  cl_Game : Cls K a.c_Game
  c_Game : mg "Game" = some (.ref a.c_Game)
  mk_Game : Mk K a.c_Game a.f_Game_init
  n_Game_clock : NoAttr K a.c_Game "clock"
  n_Game_field : NoAttr K a.c_Game "field"
  n_Game_at_kicks : NoAttr K a.c_Game "at_kicks"
  n_Game_kicks : NoAttr K a.c_Game "kicks"
  n_Game_winner : NoAttr K a.c_Game "winner"
  F_lengths_allowed : Fun K "lengths_allowed" "lengths_allowed" st_lengths_allowed a.f_lengths_allowed a.d_lengths_allowed
  b_lengths_allowed : Binds K a.d_lengths_allowed ["half", "extra"] []
  m_lengths_allowed : mg "lengths_allowed" = some (.ref a.f_lengths_allowed)
  F_minutes_rounded_up : Fun K "minutes_rounded_up" "minutes_rounded_up" st_minutes_rounded_up a.f_minutes_rounded_up a.d_minutes_rounded_up
  b_minutes_rounded_up : Binds K a.d_minutes_rounded_up ["seconds"] []
  m_minutes_rounded_up : mg "minutes_rounded_up" = some (.ref a.f_minutes_rounded_up)
  F_Clock_init : Fun K "__init__" "Clock.__init__" st_Clock_init a.f_Clock_init a.d_Clock_init
  b_Clock_init : Binds K a.d_Clock_init ["self", "half", "extra"] []
  F_Clock_all_played : Fun K "all_played" "Clock.all_played" st_Clock_all_played a.f_Clock_all_played a.d_Clock_all_played
  b_Clock_all_played : Binds K a.d_Clock_all_played ["self"] []
  m_Clock_all_played : Meth K a.c_Clock "all_played" a.f_Clock_all_played
  F_Clock_length : Fun K "length" "Clock.length" st_Clock_length a.f_Clock_length a.d_Clock_length
  b_Clock_length : Binds K a.d_Clock_length ["self"] []
  m_Clock_length : Meth K a.c_Clock "length" a.f_Clock_length
  F_Clock_kick : Fun K "kick" "Clock.kick" st_Clock_kick a.f_Clock_kick a.d_Clock_kick
  b_Clock_kick : Binds K a.d_Clock_kick ["self"] []
  m_Clock_kick : Meth K a.c_Clock "kick" a.f_Clock_kick
  F_Clock_tick : Fun K "tick" "Clock.tick" st_Clock_tick a.f_Clock_tick a.d_Clock_tick
  b_Clock_tick : Binds K a.d_Clock_tick ["self", "seconds", "standing"] []
  m_Clock_tick : Meth K a.c_Clock "tick" a.f_Clock_tick
  F_Clock_whistle : Fun K "whistle" "Clock.whistle" st_Clock_whistle a.f_Clock_whistle a.d_Clock_whistle
  b_Clock_whistle : Binds K a.d_Clock_whistle ["self"] []
  m_Clock_whistle : Meth K a.c_Clock "whistle" a.f_Clock_whistle
  F_Clock_minute : Fun K "minute" "Clock.minute" st_Clock_minute a.f_Clock_minute a.d_Clock_minute
  b_Clock_minute : Binds K a.d_Clock_minute ["self"] []
  m_Clock_minute : Meth K a.c_Clock "minute" a.f_Clock_minute
  F_other : Fun K "other" "other" st_other a.f_other a.d_other
  b_other : Binds K a.d_other ["team"] []
  m_other : mg "other" = some (.ref a.f_other)
  F_won_by : Fun K "won_by" "won_by" st_won_by a.f_won_by a.d_won_by
  b_won_by : Binds K a.d_won_by ["team"] []
  m_won_by : mg "won_by" = some (.ref a.f_won_by)
  F_first_places : Fun K "first_places" "first_places" st_first_places a.f_first_places a.d_first_places
  b_first_places : Binds K a.d_first_places [] []
  m_first_places : mg "first_places" = some (.ref a.f_first_places)
  F_as_bits : Fun K "as_bits" "as_bits" st_as_bits a.f_as_bits a.d_as_bits
  b_as_bits : Binds K a.d_as_bits ["players"] []
  m_as_bits : mg "as_bits" = some (.ref a.f_as_bits)
  F_Field_init : Fun K "__init__" "Field.__init__" st_Field_init a.f_Field_init a.d_Field_init
  b_Field_init : Binds K a.d_Field_init ["self"] []
  F_Field_set_play : Fun K "set_play" "Field.set_play" st_Field_set_play a.f_Field_set_play a.d_Field_set_play
  b_Field_set_play : Binds K a.d_Field_set_play ["self", "play"] []
  m_Field_set_play : Meth K a.c_Field "set_play" a.f_Field_set_play
  F_Field_is_standing : Fun K "is_standing" "Field.is_standing" st_Field_is_standing a.f_Field_is_standing a.d_Field_is_standing
  b_Field_is_standing : Binds K a.d_Field_is_standing ["self"] []
  m_Field_is_standing : Meth K a.c_Field "is_standing" a.f_Field_is_standing
  F_Field_is_on : Fun K "is_on" "Field.is_on" st_Field_is_on a.f_Field_is_on a.d_Field_is_on
  b_Field_is_on : Binds K a.d_Field_is_on ["self", "team", "player"] []
  m_Field_is_on : Meth K a.c_Field "is_on" a.f_Field_is_on
  F_Field_players_on : Fun K "players_on" "Field.players_on" st_Field_players_on a.f_Field_players_on a.d_Field_players_on
  b_Field_players_on : Binds K a.d_Field_players_on ["self", "team"] []
  m_Field_players_on : Meth K a.c_Field "players_on" a.f_Field_players_on
  F_Field_too_few : Fun K "too_few" "Field.too_few" st_Field_too_few a.f_Field_too_few a.d_Field_too_few
  b_Field_too_few : Binds K a.d_Field_too_few ["self", "team"] []
  m_Field_too_few : Meth K a.c_Field "too_few" a.f_Field_too_few
  F_Field_on : Fun K "on" "Field.on" st_Field_on a.f_Field_on a.d_Field_on
  b_Field_on : Binds K a.d_Field_on ["self", "team"] []
  m_Field_on : Meth K a.c_Field "on" a.f_Field_on
  F_Field_card : Fun K "card" "Field.card" st_Field_card a.f_Field_card a.d_Field_card
  b_Field_card : Binds K a.d_Field_card ["self", "team", "player", "colour"] []
  m_Field_card : Meth K a.c_Field "card" a.f_Field_card
  F_Field_change : Fun K "change" "Field.change" st_Field_change a.f_Field_change a.d_Field_change
  b_Field_change : Binds K a.d_Field_change ["self", "team", "leaving", "coming", "barred"] []
  m_Field_change : Meth K a.c_Field "change" a.f_Field_change
  F_Field_change_refusal : Fun K "change_refusal" "Field.change_refusal" st_Field_change_refusal a.f_Field_change_refusal a.d_Field_change_refusal
  b_Field_change_refusal : Binds K a.d_Field_change_refusal ["self", "team", "leaving", "coming", "barred"] []
  m_Field_change_refusal : Meth K a.c_Field "change_refusal" a.f_Field_change_refusal
  F_Field_needs_window : Fun K "needs_window" "Field.needs_window" st_Field_needs_window a.f_Field_needs_window a.d_Field_needs_window
  b_Field_needs_window : Binds K a.d_Field_needs_window ["self", "team"] []
  m_Field_needs_window : Meth K a.c_Field "needs_window" a.f_Field_needs_window
  F_Field_take_window : Fun K "take_window" "Field.take_window" st_Field_take_window a.f_Field_take_window a.d_Field_take_window
  b_Field_take_window : Binds K a.d_Field_take_window ["self", "team"] []
  m_Field_take_window : Meth K a.c_Field "take_window" a.f_Field_take_window
  F_Field_goal : Fun K "goal" "Field.goal" st_Field_goal a.f_Field_goal a.d_Field_goal
  b_Field_goal : Binds K a.d_Field_goal ["self", "team", "player", "own"] []
  m_Field_goal : Meth K a.c_Field "goal" a.f_Field_goal
  F_Kicks_init : Fun K "__init__" "Kicks.__init__" st_Kicks_init a.f_Kicks_init a.d_Kicks_init
  b_Kicks_init : Binds K a.d_Kicks_init ["self", "beginner"] []
  F_Kicks_all_taken : Fun K "all_taken" "Kicks.all_taken" st_Kicks_all_taken a.f_Kicks_all_taken a.d_Kicks_all_taken
  b_Kicks_all_taken : Binds K a.d_Kicks_all_taken ["self"] []
  m_Kicks_all_taken : Meth K a.c_Kicks "all_taken" a.f_Kicks_all_taken
  F_Kicks_round_is_done : Fun K "round_is_done" "Kicks.round_is_done" st_Kicks_round_is_done a.f_Kicks_round_is_done a.d_Kicks_round_is_done
  b_Kicks_round_is_done : Binds K a.d_Kicks_round_is_done ["self", "players_on"] []
  m_Kicks_round_is_done : Meth K a.c_Kicks "round_is_done" a.f_Kicks_round_is_done
  F_Kicks_must_wait : Fun K "must_wait" "Kicks.must_wait" st_Kicks_must_wait a.f_Kicks_must_wait a.d_Kicks_must_wait
  b_Kicks_must_wait : Binds K a.d_Kicks_must_wait ["self", "player", "players_on"] []
  m_Kicks_must_wait : Meth K a.c_Kicks "must_wait" a.f_Kicks_must_wait
  F_Kicks_take : Fun K "take" "Kicks.take" st_Kicks_take a.f_Kicks_take a.d_Kicks_take
  b_Kicks_take : Binds K a.d_Kicks_take ["self", "player", "scored", "players_on"] []
  m_Kicks_take : Meth K a.c_Kicks "take" a.f_Kicks_take
  F_Kicks_decided_for : Fun K "decided_for" "Kicks.decided_for" st_Kicks_decided_for a.f_Kicks_decided_for a.d_Kicks_decided_for
  b_Kicks_decided_for : Binds K a.d_Kicks_decided_for ["self"] []
  m_Kicks_decided_for : Meth K a.c_Kicks "decided_for" a.f_Kicks_decided_for
  F_Kicks_left : Fun K "left" "Kicks.left" st_Kicks_left a.f_Kicks_left a.d_Kicks_left
  b_Kicks_left : Binds K a.d_Kicks_left ["self", "team"] []
  m_Kicks_left : Meth K a.c_Kicks "left" a.f_Kicks_left
  F_Game_init : Fun K "__init__" "Game.__init__" st_Game_init a.f_Game_init a.d_Game_init
  b_Game_init : Binds K a.d_Game_init ["self", "half", "extra"] []
  F_Game_kick : Fun K "kick" "Game.kick" st_Game_kick a.f_Game_kick a.d_Game_kick
  b_Game_kick : Binds K a.d_Game_kick ["self"] []
  m_Game_kick : Meth K a.c_Game "kick" a.f_Game_kick
  F_Game_tick : Fun K "tick" "Game.tick" st_Game_tick a.f_Game_tick a.d_Game_tick
  b_Game_tick : Binds K a.d_Game_tick ["self", "seconds"] []
  m_Game_tick : Meth K a.c_Game "tick" a.f_Game_tick
  F_Game_stop : Fun K "stop" "Game.stop" st_Game_stop a.f_Game_stop a.d_Game_stop
  b_Game_stop : Binds K a.d_Game_stop ["self", "stop"] []
  m_Game_stop : Meth K a.c_Game "stop" a.f_Game_stop
  F_Game_whistle : Fun K "whistle" "Game.whistle" st_Game_whistle a.f_Game_whistle a.d_Game_whistle
  b_Game_whistle : Binds K a.d_Game_whistle ["self"] []
  m_Game_whistle : Meth K a.c_Game "whistle" a.f_Game_whistle
  F_Game_settle : Fun K "settle" "Game.settle" st_Game_settle a.f_Game_settle a.d_Game_settle
  b_Game_settle : Binds K a.d_Game_settle ["self"] []
  m_Game_settle : Meth K a.c_Game "settle" a.f_Game_settle
  F_Game_card : Fun K "card" "Game.card" st_Game_card a.f_Game_card a.d_Game_card
  b_Game_card : Binds K a.d_Game_card ["self", "team", "player", "colour"] []
  m_Game_card : Meth K a.c_Game "card" a.f_Game_card
  F_Game_change : Fun K "change" "Game.change" st_Game_change a.f_Game_change a.d_Game_change
  b_Game_change : Binds K a.d_Game_change ["self", "team", "leaving", "coming"] []
  m_Game_change : Meth K a.c_Game "change" a.f_Game_change
  F_Game_goal : Fun K "goal" "Game.goal" st_Game_goal a.f_Game_goal a.d_Game_goal
  b_Game_goal : Binds K a.d_Game_goal ["self", "team", "player", "own"] []
  m_Game_goal : Meth K a.c_Game "goal" a.f_Game_goal
  F_Game_first : Fun K "first" "Game.first" st_Game_first a.f_Game_first a.d_Game_first
  b_Game_first : Binds K a.d_Game_first ["self", "team"] []
  m_Game_first : Meth K a.c_Game "first" a.f_Game_first
  F_Game_shoot : Fun K "shoot" "Game.shoot" st_Game_shoot a.f_Game_shoot a.d_Game_shoot
  b_Game_shoot : Binds K a.d_Game_shoot ["self", "team", "player", "scored"] []
  m_Game_shoot : Meth K a.c_Game "shoot" a.f_Game_shoot
  F_Game_shoot_refusal : Fun K "shoot_refusal" "Game.shoot_refusal" st_Game_shoot_refusal a.f_Game_shoot_refusal a.d_Game_shoot_refusal
  b_Game_shoot_refusal : Binds K a.d_Game_shoot_refusal ["self", "team", "player", "scored"] []
  m_Game_shoot_refusal : Meth K a.c_Game "shoot_refusal" a.f_Game_shoot_refusal
  F_Game_score : Fun K "score" "Game.score" st_Game_score a.f_Game_score a.d_Game_score
  b_Game_score : Binds K a.d_Game_score ["self"] []
  m_Game_score : Meth K a.c_Game "score" a.f_Game_score
  F_Game_on : Fun K "on" "Game.on" st_Game_on a.f_Game_on a.d_Game_on
  b_Game_on : Binds K a.d_Game_on ["self", "team"] []
  m_Game_on : Meth K a.c_Game "on" a.f_Game_on
  F_Game_minute : Fun K "minute" "Game.minute" st_Game_minute a.f_Game_minute a.d_Game_minute
  b_Game_minute : Binds K a.d_Game_minute ["self"] []
  m_Game_minute : Meth K a.c_Game "minute" a.f_Game_minute
  F_answers : Fun K "answers" "answers" st_answers a.f_answers a.d_answers
  b_answers : Binds K a.d_answers ["calls"] []
  m_answers : mg "answers" = some (.ref a.f_answers)
  F_numbers_of : Fun K "numbers_of" "numbers_of" st_numbers_of a.f_numbers_of a.d_numbers_of
  b_numbers_of : Binds K a.d_numbers_of ["game", "call", "handed"] []
  m_numbers_of : mg "numbers_of" = some (.ref a.f_numbers_of)
  F_answer_of : Fun K "answer_of" "answer_of" st_answer_of a.f_answer_of a.d_answer_of
  b_answer_of : Binds K a.d_answer_of ["game", "call", "handed"] []
  m_answer_of : mg "answer_of" = some (.ref a.f_answer_of)
end MK

/-! The facts of the top, gathered: made by gen.py. -/
namespace MK
open PySem PySem.Spec PyProof.Rows L2
set_option maxHeartbeats 0 in
theorem txt_mk {K : PySem.W.Frag} {h : Heap} {mg : Str → Option Value} (X : K.In h) (G : h.Ns mainGlobals mg)
    {c_Clock c_Field c_Kicks c_Game f_lengths_allowed f_minutes_rounded_up f_Clock_init f_Clock_all_played f_Clock_length f_Clock_kick f_Clock_tick f_Clock_whistle f_Clock_minute f_other f_won_by f_first_places f_as_bits f_Field_init f_Field_set_play f_Field_is_standing f_Field_is_on f_Field_players_on f_Field_too_few f_Field_on f_Field_card f_Field_change f_Field_change_refusal f_Field_needs_window f_Field_take_window f_Field_goal f_Kicks_init f_Kicks_all_taken f_Kicks_round_is_done f_Kicks_must_wait f_Kicks_take f_Kicks_decided_for f_Kicks_left f_Game_init f_Game_kick f_Game_tick f_Game_stop f_Game_whistle f_Game_settle f_Game_card f_Game_change f_Game_goal f_Game_first f_Game_shoot f_Game_shoot_refusal f_Game_score f_Game_on f_Game_minute f_answers f_numbers_of f_answer_of g_HANDED : Addr}
    {t_WAS_SENT_OFF : Tok}
    {t_NO_PERIOD : Tok}
    {t_NO_KICKS : Tok}
    {t_NOT_NOW : Tok}
    {t_HAS_KICKED : Tok}
    {t_OUT_OF_RANGE : Tok}
    {t_USED_UP : Tok}
    {t_NO_WINDOW : Tok}
    {t_TOO_EARLY : Tok}
    {t_NOT_THEIR_TURN : Tok}
    {t_MATCH_OVER : Tok}
    {t_NOT_ON : Tok}
    {t_NOT_ON_BENCH : Tok}
    {t_SHORTEST : Tok}
    {t_LONGEST_HALF : Tok}
    {t_LONGEST_EXTRA : Tok}
    {t_LONGEST_TICK : Tok}
    {t_MOST_SECONDS : Tok}
    {t_MINUTE_clock : Tok}
    {t_LAST_TEAM : Tok}
    {t_NOBODY : Tok}
    {t_PLAYERS : Tok}
    {t_STARTERS : Tok}
    {t_FEWEST_ON : Tok}
    {t_ON_field : Tok}
    {t_BENCH : Tok}
    {t_OUT : Tok}
    {t_SENT_OFF : Tok}
    {t_YELLOW : Tok}
    {t_RED : Tok}
    {t_GOES_ON : Tok}
    {t_STANDS : Tok}
    {t_RESTS : Tok}
    {t_MOST_CHANGES : Tok}
    {t_MOST_WINDOWS : Tok}
    {t_MOST_GOALS : Tok}
    {t_KICKS_EACH : Tok}
    {t_MOST_KICKS : Tok}
    {t_START : Tok}
    {t_KICK : Tok}
    {t_TICK : Tok}
    {t_STOP : Tok}
    {t_WHISTLE : Tok}
    {t_CARD : Tok}
    {t_CHANGE : Tok}
    {t_GOAL : Tok}
    {t_FIRST : Tok}
    {t_SCORE : Tok}
    {t_ON_referee : Tok}
    {t_MINUTE_referee : Tok}
    {t_WON : Tok}
    {t_HANDED_0 t_HANDED_1 t_HANDED_2 t_HANDED_3 t_HANDED_4 t_HANDED_5 t_HANDED_6 t_HANDED_7 t_HANDED_8 t_HANDED_9 t_HANDED_10 t_HANDED_11 t_HANDED_12 t_HANDED_13 : Tok}
    {od_HANDED : Option Addr} {n_HANDED : Nat} {sl_HANDED : Array (Option Value)}
    {oc_lengths_allowed kV_lengths_allowed dc_lengths_allowed pm_lengths_allowed cd_lengths_allowed ct_lengths_allowed : Value} {od_lengths_allowed an_lengths_allowed : Option Addr} {sl_lengths_allowed : Array (Option Value)}
    {oc_minutes_rounded_up kV_minutes_rounded_up dc_minutes_rounded_up pm_minutes_rounded_up cd_minutes_rounded_up ct_minutes_rounded_up : Value} {od_minutes_rounded_up an_minutes_rounded_up : Option Addr} {sl_minutes_rounded_up : Array (Option Value)}
    {oc_Clock_init kV_Clock_init dc_Clock_init pm_Clock_init cd_Clock_init ct_Clock_init : Value} {od_Clock_init an_Clock_init : Option Addr} {sl_Clock_init : Array (Option Value)}
    {oc_Clock_all_played kV_Clock_all_played dc_Clock_all_played pm_Clock_all_played cd_Clock_all_played ct_Clock_all_played : Value} {od_Clock_all_played an_Clock_all_played : Option Addr} {sl_Clock_all_played : Array (Option Value)}
    {oc_Clock_length kV_Clock_length dc_Clock_length pm_Clock_length cd_Clock_length ct_Clock_length : Value} {od_Clock_length an_Clock_length : Option Addr} {sl_Clock_length : Array (Option Value)}
    {oc_Clock_kick kV_Clock_kick dc_Clock_kick pm_Clock_kick cd_Clock_kick ct_Clock_kick : Value} {od_Clock_kick an_Clock_kick : Option Addr} {sl_Clock_kick : Array (Option Value)}
    {oc_Clock_tick kV_Clock_tick dc_Clock_tick pm_Clock_tick cd_Clock_tick ct_Clock_tick : Value} {od_Clock_tick an_Clock_tick : Option Addr} {sl_Clock_tick : Array (Option Value)}
    {oc_Clock_whistle kV_Clock_whistle dc_Clock_whistle pm_Clock_whistle cd_Clock_whistle ct_Clock_whistle : Value} {od_Clock_whistle an_Clock_whistle : Option Addr} {sl_Clock_whistle : Array (Option Value)}
    {oc_Clock_minute kV_Clock_minute dc_Clock_minute pm_Clock_minute cd_Clock_minute ct_Clock_minute : Value} {od_Clock_minute an_Clock_minute : Option Addr} {sl_Clock_minute : Array (Option Value)}
    {oc_other kV_other dc_other pm_other cd_other ct_other : Value} {od_other an_other : Option Addr} {sl_other : Array (Option Value)}
    {oc_won_by kV_won_by dc_won_by pm_won_by cd_won_by ct_won_by : Value} {od_won_by an_won_by : Option Addr} {sl_won_by : Array (Option Value)}
    {oc_first_places kV_first_places dc_first_places pm_first_places cd_first_places ct_first_places : Value} {od_first_places an_first_places : Option Addr} {sl_first_places : Array (Option Value)}
    {oc_as_bits kV_as_bits dc_as_bits pm_as_bits cd_as_bits ct_as_bits : Value} {od_as_bits an_as_bits : Option Addr} {sl_as_bits : Array (Option Value)}
    {oc_Field_init kV_Field_init dc_Field_init pm_Field_init cd_Field_init ct_Field_init : Value} {od_Field_init an_Field_init : Option Addr} {sl_Field_init : Array (Option Value)}
    {oc_Field_set_play kV_Field_set_play dc_Field_set_play pm_Field_set_play cd_Field_set_play ct_Field_set_play : Value} {od_Field_set_play an_Field_set_play : Option Addr} {sl_Field_set_play : Array (Option Value)}
    {oc_Field_is_standing kV_Field_is_standing dc_Field_is_standing pm_Field_is_standing cd_Field_is_standing ct_Field_is_standing : Value} {od_Field_is_standing an_Field_is_standing : Option Addr} {sl_Field_is_standing : Array (Option Value)}
    {oc_Field_is_on kV_Field_is_on dc_Field_is_on pm_Field_is_on cd_Field_is_on ct_Field_is_on : Value} {od_Field_is_on an_Field_is_on : Option Addr} {sl_Field_is_on : Array (Option Value)}
    {oc_Field_players_on kV_Field_players_on dc_Field_players_on pm_Field_players_on cd_Field_players_on ct_Field_players_on : Value} {od_Field_players_on an_Field_players_on : Option Addr} {sl_Field_players_on : Array (Option Value)}
    {oc_Field_too_few kV_Field_too_few dc_Field_too_few pm_Field_too_few cd_Field_too_few ct_Field_too_few : Value} {od_Field_too_few an_Field_too_few : Option Addr} {sl_Field_too_few : Array (Option Value)}
    {oc_Field_on kV_Field_on dc_Field_on pm_Field_on cd_Field_on ct_Field_on : Value} {od_Field_on an_Field_on : Option Addr} {sl_Field_on : Array (Option Value)}
    {oc_Field_card kV_Field_card dc_Field_card pm_Field_card cd_Field_card ct_Field_card : Value} {od_Field_card an_Field_card : Option Addr} {sl_Field_card : Array (Option Value)}
    {oc_Field_change kV_Field_change dc_Field_change pm_Field_change cd_Field_change ct_Field_change : Value} {od_Field_change an_Field_change : Option Addr} {sl_Field_change : Array (Option Value)}
    {oc_Field_change_refusal kV_Field_change_refusal dc_Field_change_refusal pm_Field_change_refusal cd_Field_change_refusal ct_Field_change_refusal : Value} {od_Field_change_refusal an_Field_change_refusal : Option Addr} {sl_Field_change_refusal : Array (Option Value)}
    {oc_Field_needs_window kV_Field_needs_window dc_Field_needs_window pm_Field_needs_window cd_Field_needs_window ct_Field_needs_window : Value} {od_Field_needs_window an_Field_needs_window : Option Addr} {sl_Field_needs_window : Array (Option Value)}
    {oc_Field_take_window kV_Field_take_window dc_Field_take_window pm_Field_take_window cd_Field_take_window ct_Field_take_window : Value} {od_Field_take_window an_Field_take_window : Option Addr} {sl_Field_take_window : Array (Option Value)}
    {oc_Field_goal kV_Field_goal dc_Field_goal pm_Field_goal cd_Field_goal ct_Field_goal : Value} {od_Field_goal an_Field_goal : Option Addr} {sl_Field_goal : Array (Option Value)}
    {oc_Kicks_init kV_Kicks_init dc_Kicks_init pm_Kicks_init cd_Kicks_init ct_Kicks_init : Value} {od_Kicks_init an_Kicks_init : Option Addr} {sl_Kicks_init : Array (Option Value)}
    {oc_Kicks_all_taken kV_Kicks_all_taken dc_Kicks_all_taken pm_Kicks_all_taken cd_Kicks_all_taken ct_Kicks_all_taken : Value} {od_Kicks_all_taken an_Kicks_all_taken : Option Addr} {sl_Kicks_all_taken : Array (Option Value)}
    {oc_Kicks_round_is_done kV_Kicks_round_is_done dc_Kicks_round_is_done pm_Kicks_round_is_done cd_Kicks_round_is_done ct_Kicks_round_is_done : Value} {od_Kicks_round_is_done an_Kicks_round_is_done : Option Addr} {sl_Kicks_round_is_done : Array (Option Value)}
    {oc_Kicks_must_wait kV_Kicks_must_wait dc_Kicks_must_wait pm_Kicks_must_wait cd_Kicks_must_wait ct_Kicks_must_wait : Value} {od_Kicks_must_wait an_Kicks_must_wait : Option Addr} {sl_Kicks_must_wait : Array (Option Value)}
    {oc_Kicks_take kV_Kicks_take dc_Kicks_take pm_Kicks_take cd_Kicks_take ct_Kicks_take : Value} {od_Kicks_take an_Kicks_take : Option Addr} {sl_Kicks_take : Array (Option Value)}
    {oc_Kicks_decided_for kV_Kicks_decided_for dc_Kicks_decided_for pm_Kicks_decided_for cd_Kicks_decided_for ct_Kicks_decided_for : Value} {od_Kicks_decided_for an_Kicks_decided_for : Option Addr} {sl_Kicks_decided_for : Array (Option Value)}
    {oc_Kicks_left kV_Kicks_left dc_Kicks_left pm_Kicks_left cd_Kicks_left ct_Kicks_left : Value} {od_Kicks_left an_Kicks_left : Option Addr} {sl_Kicks_left : Array (Option Value)}
    {oc_Game_init kV_Game_init dc_Game_init pm_Game_init cd_Game_init ct_Game_init : Value} {od_Game_init an_Game_init : Option Addr} {sl_Game_init : Array (Option Value)}
    {oc_Game_kick kV_Game_kick dc_Game_kick pm_Game_kick cd_Game_kick ct_Game_kick : Value} {od_Game_kick an_Game_kick : Option Addr} {sl_Game_kick : Array (Option Value)}
    {oc_Game_tick kV_Game_tick dc_Game_tick pm_Game_tick cd_Game_tick ct_Game_tick : Value} {od_Game_tick an_Game_tick : Option Addr} {sl_Game_tick : Array (Option Value)}
    {oc_Game_stop kV_Game_stop dc_Game_stop pm_Game_stop cd_Game_stop ct_Game_stop : Value} {od_Game_stop an_Game_stop : Option Addr} {sl_Game_stop : Array (Option Value)}
    {oc_Game_whistle kV_Game_whistle dc_Game_whistle pm_Game_whistle cd_Game_whistle ct_Game_whistle : Value} {od_Game_whistle an_Game_whistle : Option Addr} {sl_Game_whistle : Array (Option Value)}
    {oc_Game_settle kV_Game_settle dc_Game_settle pm_Game_settle cd_Game_settle ct_Game_settle : Value} {od_Game_settle an_Game_settle : Option Addr} {sl_Game_settle : Array (Option Value)}
    {oc_Game_card kV_Game_card dc_Game_card pm_Game_card cd_Game_card ct_Game_card : Value} {od_Game_card an_Game_card : Option Addr} {sl_Game_card : Array (Option Value)}
    {oc_Game_change kV_Game_change dc_Game_change pm_Game_change cd_Game_change ct_Game_change : Value} {od_Game_change an_Game_change : Option Addr} {sl_Game_change : Array (Option Value)}
    {oc_Game_goal kV_Game_goal dc_Game_goal pm_Game_goal cd_Game_goal ct_Game_goal : Value} {od_Game_goal an_Game_goal : Option Addr} {sl_Game_goal : Array (Option Value)}
    {oc_Game_first kV_Game_first dc_Game_first pm_Game_first cd_Game_first ct_Game_first : Value} {od_Game_first an_Game_first : Option Addr} {sl_Game_first : Array (Option Value)}
    {oc_Game_shoot kV_Game_shoot dc_Game_shoot pm_Game_shoot cd_Game_shoot ct_Game_shoot : Value} {od_Game_shoot an_Game_shoot : Option Addr} {sl_Game_shoot : Array (Option Value)}
    {oc_Game_shoot_refusal kV_Game_shoot_refusal dc_Game_shoot_refusal pm_Game_shoot_refusal cd_Game_shoot_refusal ct_Game_shoot_refusal : Value} {od_Game_shoot_refusal an_Game_shoot_refusal : Option Addr} {sl_Game_shoot_refusal : Array (Option Value)}
    {oc_Game_score kV_Game_score dc_Game_score pm_Game_score cd_Game_score ct_Game_score : Value} {od_Game_score an_Game_score : Option Addr} {sl_Game_score : Array (Option Value)}
    {oc_Game_on kV_Game_on dc_Game_on pm_Game_on cd_Game_on ct_Game_on : Value} {od_Game_on an_Game_on : Option Addr} {sl_Game_on : Array (Option Value)}
    {oc_Game_minute kV_Game_minute dc_Game_minute pm_Game_minute cd_Game_minute ct_Game_minute : Value} {od_Game_minute an_Game_minute : Option Addr} {sl_Game_minute : Array (Option Value)}
    {oc_answers kV_answers dc_answers pm_answers cd_answers ct_answers : Value} {od_answers an_answers : Option Addr} {sl_answers : Array (Option Value)}
    {oc_numbers_of kV_numbers_of dc_numbers_of pm_numbers_of cd_numbers_of ct_numbers_of : Value} {od_numbers_of an_numbers_of : Option Addr} {sl_numbers_of : Array (Option Value)}
    {oc_answer_of kV_answer_of dc_answer_of pm_answer_of cd_answer_of ct_answer_of : Value} {od_answer_of an_answer_of : Option Addr} {sl_answer_of : Array (Option Value)}
    (hg_WAS_SENT_OFF : PySem.W.nsIn K mainGlobals "WAS_SENT_OFF" = some (some (.int (-4) t_WAS_SENT_OFF)))
    (hg_NO_PERIOD : PySem.W.nsIn K mainGlobals "NO_PERIOD" = some (some (.int (-11) t_NO_PERIOD)))
    (hg_NO_KICKS : PySem.W.nsIn K mainGlobals "NO_KICKS" = some (some (.int (-11) t_NO_KICKS)))
    (hg_NOT_NOW : PySem.W.nsIn K mainGlobals "NOT_NOW" = some (some (.int (-16) t_NOT_NOW)))
    (hg_HAS_KICKED : PySem.W.nsIn K mainGlobals "HAS_KICKED" = some (some (.int (-17) t_HAS_KICKED)))
    (hg_OUT_OF_RANGE : PySem.W.nsIn K mainGlobals "OUT_OF_RANGE" = some (some (.int (-22) t_OUT_OF_RANGE)))
    (hg_USED_UP : PySem.W.nsIn K mainGlobals "USED_UP" = some (some (.int (-28) t_USED_UP)))
    (hg_NO_WINDOW : PySem.W.nsIn K mainGlobals "NO_WINDOW" = some (some (.int (-29) t_NO_WINDOW)))
    (hg_TOO_EARLY : PySem.W.nsIn K mainGlobals "TOO_EARLY" = some (some (.int (-35) t_TOO_EARLY)))
    (hg_NOT_THEIR_TURN : PySem.W.nsIn K mainGlobals "NOT_THEIR_TURN" = some (some (.int (-37) t_NOT_THEIR_TURN)))
    (hg_MATCH_OVER : PySem.W.nsIn K mainGlobals "MATCH_OVER" = some (some (.int (-41) t_MATCH_OVER)))
    (hg_NOT_ON : PySem.W.nsIn K mainGlobals "NOT_ON" = some (some (.int (-61) t_NOT_ON)))
    (hg_NOT_ON_BENCH : PySem.W.nsIn K mainGlobals "NOT_ON_BENCH" = some (some (.int (-62) t_NOT_ON_BENCH)))
    (hg_SHORTEST : PySem.W.nsIn K mainGlobals "SHORTEST" = some (some (.int (60) t_SHORTEST)))
    (hg_LONGEST_HALF : PySem.W.nsIn K mainGlobals "LONGEST_HALF" = some (some (.int (3600) t_LONGEST_HALF)))
    (hg_LONGEST_EXTRA : PySem.W.nsIn K mainGlobals "LONGEST_EXTRA" = some (some (.int (1800) t_LONGEST_EXTRA)))
    (hg_LONGEST_TICK : PySem.W.nsIn K mainGlobals "LONGEST_TICK" = some (some (.int (3600) t_LONGEST_TICK)))
    (hg_MOST_SECONDS : PySem.W.nsIn K mainGlobals "MOST_SECONDS" = some (some (.int (1000000) t_MOST_SECONDS)))
    (hg_MINUTE_clock : PySem.W.nsIn K mainGlobals "MINUTE_clock" = some (some (.int (60) t_MINUTE_clock)))
    (hg_LAST_TEAM : PySem.W.nsIn K mainGlobals "LAST_TEAM" = some (some (.int (1) t_LAST_TEAM)))
    (hg_NOBODY : PySem.W.nsIn K mainGlobals "NOBODY" = some (some (.int (0) t_NOBODY)))
    (hg_PLAYERS : PySem.W.nsIn K mainGlobals "PLAYERS" = some (some (.int (18) t_PLAYERS)))
    (hg_STARTERS : PySem.W.nsIn K mainGlobals "STARTERS" = some (some (.int (11) t_STARTERS)))
    (hg_FEWEST_ON : PySem.W.nsIn K mainGlobals "FEWEST_ON" = some (some (.int (7) t_FEWEST_ON)))
    (hg_ON_field : PySem.W.nsIn K mainGlobals "ON_field" = some (some (.int (1) t_ON_field)))
    (hg_BENCH : PySem.W.nsIn K mainGlobals "BENCH" = some (some (.int (2) t_BENCH)))
    (hg_OUT : PySem.W.nsIn K mainGlobals "OUT" = some (some (.int (3) t_OUT)))
    (hg_SENT_OFF : PySem.W.nsIn K mainGlobals "SENT_OFF" = some (some (.int (4) t_SENT_OFF)))
    (hg_YELLOW : PySem.W.nsIn K mainGlobals "YELLOW" = some (some (.int (0) t_YELLOW)))
    (hg_RED : PySem.W.nsIn K mainGlobals "RED" = some (some (.int (1) t_RED)))
    (hg_GOES_ON : PySem.W.nsIn K mainGlobals "GOES_ON" = some (some (.int (0) t_GOES_ON)))
    (hg_STANDS : PySem.W.nsIn K mainGlobals "STANDS" = some (some (.int (1) t_STANDS)))
    (hg_RESTS : PySem.W.nsIn K mainGlobals "RESTS" = some (some (.int (2) t_RESTS)))
    (hg_MOST_CHANGES : PySem.W.nsIn K mainGlobals "MOST_CHANGES" = some (some (.int (5) t_MOST_CHANGES)))
    (hg_MOST_WINDOWS : PySem.W.nsIn K mainGlobals "MOST_WINDOWS" = some (some (.int (3) t_MOST_WINDOWS)))
    (hg_MOST_GOALS : PySem.W.nsIn K mainGlobals "MOST_GOALS" = some (some (.int (1000000) t_MOST_GOALS)))
    (hg_KICKS_EACH : PySem.W.nsIn K mainGlobals "KICKS_EACH" = some (some (.int (5) t_KICKS_EACH)))
    (hg_MOST_KICKS : PySem.W.nsIn K mainGlobals "MOST_KICKS" = some (some (.int (1000000) t_MOST_KICKS)))
    (hg_START : PySem.W.nsIn K mainGlobals "START" = some (some (.int (0) t_START)))
    (hg_KICK : PySem.W.nsIn K mainGlobals "KICK" = some (some (.int (1) t_KICK)))
    (hg_TICK : PySem.W.nsIn K mainGlobals "TICK" = some (some (.int (2) t_TICK)))
    (hg_STOP : PySem.W.nsIn K mainGlobals "STOP" = some (some (.int (3) t_STOP)))
    (hg_WHISTLE : PySem.W.nsIn K mainGlobals "WHISTLE" = some (some (.int (4) t_WHISTLE)))
    (hg_CARD : PySem.W.nsIn K mainGlobals "CARD" = some (some (.int (5) t_CARD)))
    (hg_CHANGE : PySem.W.nsIn K mainGlobals "CHANGE" = some (some (.int (6) t_CHANGE)))
    (hg_GOAL : PySem.W.nsIn K mainGlobals "GOAL" = some (some (.int (7) t_GOAL)))
    (hg_FIRST : PySem.W.nsIn K mainGlobals "FIRST" = some (some (.int (8) t_FIRST)))
    (hg_SCORE : PySem.W.nsIn K mainGlobals "SCORE" = some (some (.int (10) t_SCORE)))
    (hg_ON_referee : PySem.W.nsIn K mainGlobals "ON_referee" = some (some (.int (11) t_ON_referee)))
    (hg_MINUTE_referee : PySem.W.nsIn K mainGlobals "MINUTE_referee" = some (some (.int (12) t_MINUTE_referee)))
    (hg_WON : PySem.W.nsIn K mainGlobals "WON" = some (some (.int (13) t_WON)))
    (hg_HANDED : PySem.W.nsIn K mainGlobals "HANDED" = some (some (.ref g_HANDED)))
    (hs_HANDED : K.lookup g_HANDED = some ⟨.type "tuple", od_HANDED, .seq #[.int 2 t_HANDED_0, .int 0 t_HANDED_1, .int 1 t_HANDED_2, .int 1 t_HANDED_3, .int 0 t_HANDED_4, .int 3 t_HANDED_5, .int 3 t_HANDED_6, .int 3 t_HANDED_7, .int 1 t_HANDED_8, .int 3 t_HANDED_9, .int 0 t_HANDED_10, .int 1 t_HANDED_11, .int 0 t_HANDED_12, .int 0 t_HANDED_13] n_HANDED, sl_HANDED⟩)
    (hno_all : PySem.W.nsIn K mainGlobals "all" = some none)
    (hno_len : PySem.W.nsIn K mainGlobals "len" = some none)
    (hno_max : PySem.W.nsIn K mainGlobals "max" = some none)
    (hno_min : PySem.W.nsIn K mainGlobals "min" = some none)
    (hno_range : PySem.W.nsIn K mainGlobals "range" = some none)
    (hno_sum : PySem.W.nsIn K mainGlobals "sum" = some none)
    (hc_Clock : PySem.W.nsIn K mainGlobals "Clock" = some (some (.ref c_Clock)))
    (hpg_Clock : PySem.W.plainGet K c_Clock Str.empty = true)
    (hhd_Clock : PySem.W.hasDictIn K c_Clock = true)
    (hpo_Clock : PySem.W.plainOver K c_Clock = true)
    (hsa_Clock : PySem.W.findIn K (.ref c_Clock) "__setattr__" = some (some (.builtin "object.__setattr__")))
    (hmk_Clock : PySem.W.makesIn K c_Clock = true)
    (hkc_Clock : PySem.W.keepIn K (.ref c_Clock) = true)
    (hn_Clock_lengths : PySem.W.findIn K (.ref c_Clock) "lengths" = some none)
    (hn_Clock_played : PySem.W.findIn K (.ref c_Clock) "played" = some none)
    (hn_Clock_running : PySem.W.findIn K (.ref c_Clock) "running" = some none)
    (hn_Clock_gone : PySem.W.findIn K (.ref c_Clock) "gone" = some none)
    (hn_Clock_stood : PySem.W.findIn K (.ref c_Clock) "stood" = some none)
    (hc_Field : PySem.W.nsIn K mainGlobals "Field" = some (some (.ref c_Field)))
    (hpg_Field : PySem.W.plainGet K c_Field Str.empty = true)
    (hhd_Field : PySem.W.hasDictIn K c_Field = true)
    (hpo_Field : PySem.W.plainOver K c_Field = true)
    (hsa_Field : PySem.W.findIn K (.ref c_Field) "__setattr__" = some (some (.builtin "object.__setattr__")))
    (hmk_Field : PySem.W.makesIn K c_Field = true)
    (hkc_Field : PySem.W.keepIn K (.ref c_Field) = true)
    (hn_Field_places : PySem.W.findIn K (.ref c_Field) "places" = some none)
    (hn_Field_booked : PySem.W.findIn K (.ref c_Field) "booked" = some none)
    (hn_Field_play : PySem.W.findIn K (.ref c_Field) "play" = some none)
    (hn_Field_changes : PySem.W.findIn K (.ref c_Field) "changes" = some none)
    (hn_Field_windows : PySem.W.findIn K (.ref c_Field) "windows" = some none)
    (hn_Field_in_window : PySem.W.findIn K (.ref c_Field) "in_window" = some none)
    (hn_Field_scored : PySem.W.findIn K (.ref c_Field) "scored" = some none)
    (hc_Kicks : PySem.W.nsIn K mainGlobals "Kicks" = some (some (.ref c_Kicks)))
    (hpg_Kicks : PySem.W.plainGet K c_Kicks Str.empty = true)
    (hhd_Kicks : PySem.W.hasDictIn K c_Kicks = true)
    (hpo_Kicks : PySem.W.plainOver K c_Kicks = true)
    (hsa_Kicks : PySem.W.findIn K (.ref c_Kicks) "__setattr__" = some (some (.builtin "object.__setattr__")))
    (hmk_Kicks : PySem.W.makesIn K c_Kicks = true)
    (hkc_Kicks : PySem.W.keepIn K (.ref c_Kicks) = true)
    (hn_Kicks_turn : PySem.W.findIn K (.ref c_Kicks) "turn" = some none)
    (hn_Kicks_taken : PySem.W.findIn K (.ref c_Kicks) "taken" = some none)
    (hn_Kicks_hits : PySem.W.findIn K (.ref c_Kicks) "hits" = some none)
    (hn_Kicks_in_round : PySem.W.findIn K (.ref c_Kicks) "in_round" = some none)
    (hc_Game : PySem.W.nsIn K mainGlobals "Game" = some (some (.ref c_Game)))
    (hpg_Game : PySem.W.plainGet K c_Game Str.empty = true)
    (hhd_Game : PySem.W.hasDictIn K c_Game = true)
    (hpo_Game : PySem.W.plainOver K c_Game = true)
    (hsa_Game : PySem.W.findIn K (.ref c_Game) "__setattr__" = some (some (.builtin "object.__setattr__")))
    (hmk_Game : PySem.W.makesIn K c_Game = true)
    (hkc_Game : PySem.W.keepIn K (.ref c_Game) = true)
    (hn_Game_clock : PySem.W.findIn K (.ref c_Game) "clock" = some none)
    (hn_Game_field : PySem.W.findIn K (.ref c_Game) "field" = some none)
    (hn_Game_at_kicks : PySem.W.findIn K (.ref c_Game) "at_kicks" = some none)
    (hn_Game_kicks : PySem.W.findIn K (.ref c_Game) "kicks" = some none)
    (hn_Game_winner : PySem.W.findIn K (.ref c_Game) "winner" = some none)
    (ha_lengths_allowed : PySem.W.nsIn K mainGlobals "lengths_allowed" = some (some (.ref f_lengths_allowed)))
    (hl_lengths_allowed : K.lookup f_lengths_allowed = some ⟨oc_lengths_allowed, od_lengths_allowed, .func (PySem.W.fnOf "lengths_allowed" "lengths_allowed" (defArgs st_lengths_allowed) (defBody st_lengths_allowed) (defScope st_lengths_allowed) .none kV_lengths_allowed dc_lengths_allowed pm_lengths_allowed an_lengths_allowed cd_lengths_allowed ct_lengths_allowed), sl_lengths_allowed⟩)
    (he_lengths_allowed : PySem.W.codeIn K cd_lengths_allowed "lengths_allowed" = true)
    (hk_lengths_allowed : PySem.W.keepIn K (.ref f_lengths_allowed) = true)
    (ha_minutes_rounded_up : PySem.W.nsIn K mainGlobals "minutes_rounded_up" = some (some (.ref f_minutes_rounded_up)))
    (hl_minutes_rounded_up : K.lookup f_minutes_rounded_up = some ⟨oc_minutes_rounded_up, od_minutes_rounded_up, .func (PySem.W.fnOf "minutes_rounded_up" "minutes_rounded_up" (defArgs st_minutes_rounded_up) (defBody st_minutes_rounded_up) (defScope st_minutes_rounded_up) .none kV_minutes_rounded_up dc_minutes_rounded_up pm_minutes_rounded_up an_minutes_rounded_up cd_minutes_rounded_up ct_minutes_rounded_up), sl_minutes_rounded_up⟩)
    (he_minutes_rounded_up : PySem.W.codeIn K cd_minutes_rounded_up "minutes_rounded_up" = true)
    (hk_minutes_rounded_up : PySem.W.keepIn K (.ref f_minutes_rounded_up) = true)
    (ha_Clock_init : PySem.W.findIn K (.ref c_Clock) "__init__" = some (some (.ref f_Clock_init)))
    (hi_Clock_init : PySem.W.isFn K (.ref f_Clock_init) = true)
    (hl_Clock_init : K.lookup f_Clock_init = some ⟨oc_Clock_init, od_Clock_init, .func (PySem.W.fnOf "__init__" "Clock.__init__" (defArgs st_Clock_init) (defBody st_Clock_init) (defScope st_Clock_init) .none kV_Clock_init dc_Clock_init pm_Clock_init an_Clock_init cd_Clock_init ct_Clock_init), sl_Clock_init⟩)
    (he_Clock_init : PySem.W.codeIn K cd_Clock_init "Clock.__init__" = true)
    (hk_Clock_init : PySem.W.keepIn K (.ref f_Clock_init) = true)
    (ha_Clock_all_played : PySem.W.findIn K (.ref c_Clock) "all_played" = some (some (.ref f_Clock_all_played)))
    (hi_Clock_all_played : PySem.W.isFn K (.ref f_Clock_all_played) = true)
    (hl_Clock_all_played : K.lookup f_Clock_all_played = some ⟨oc_Clock_all_played, od_Clock_all_played, .func (PySem.W.fnOf "all_played" "Clock.all_played" (defArgs st_Clock_all_played) (defBody st_Clock_all_played) (defScope st_Clock_all_played) .none kV_Clock_all_played dc_Clock_all_played pm_Clock_all_played an_Clock_all_played cd_Clock_all_played ct_Clock_all_played), sl_Clock_all_played⟩)
    (he_Clock_all_played : PySem.W.codeIn K cd_Clock_all_played "Clock.all_played" = true)
    (hk_Clock_all_played : PySem.W.keepIn K (.ref f_Clock_all_played) = true)
    (ha_Clock_length : PySem.W.findIn K (.ref c_Clock) "length" = some (some (.ref f_Clock_length)))
    (hi_Clock_length : PySem.W.isFn K (.ref f_Clock_length) = true)
    (hl_Clock_length : K.lookup f_Clock_length = some ⟨oc_Clock_length, od_Clock_length, .func (PySem.W.fnOf "length" "Clock.length" (defArgs st_Clock_length) (defBody st_Clock_length) (defScope st_Clock_length) .none kV_Clock_length dc_Clock_length pm_Clock_length an_Clock_length cd_Clock_length ct_Clock_length), sl_Clock_length⟩)
    (he_Clock_length : PySem.W.codeIn K cd_Clock_length "Clock.length" = true)
    (hk_Clock_length : PySem.W.keepIn K (.ref f_Clock_length) = true)
    (ha_Clock_kick : PySem.W.findIn K (.ref c_Clock) "kick" = some (some (.ref f_Clock_kick)))
    (hi_Clock_kick : PySem.W.isFn K (.ref f_Clock_kick) = true)
    (hl_Clock_kick : K.lookup f_Clock_kick = some ⟨oc_Clock_kick, od_Clock_kick, .func (PySem.W.fnOf "kick" "Clock.kick" (defArgs st_Clock_kick) (defBody st_Clock_kick) (defScope st_Clock_kick) .none kV_Clock_kick dc_Clock_kick pm_Clock_kick an_Clock_kick cd_Clock_kick ct_Clock_kick), sl_Clock_kick⟩)
    (he_Clock_kick : PySem.W.codeIn K cd_Clock_kick "Clock.kick" = true)
    (hk_Clock_kick : PySem.W.keepIn K (.ref f_Clock_kick) = true)
    (ha_Clock_tick : PySem.W.findIn K (.ref c_Clock) "tick" = some (some (.ref f_Clock_tick)))
    (hi_Clock_tick : PySem.W.isFn K (.ref f_Clock_tick) = true)
    (hl_Clock_tick : K.lookup f_Clock_tick = some ⟨oc_Clock_tick, od_Clock_tick, .func (PySem.W.fnOf "tick" "Clock.tick" (defArgs st_Clock_tick) (defBody st_Clock_tick) (defScope st_Clock_tick) .none kV_Clock_tick dc_Clock_tick pm_Clock_tick an_Clock_tick cd_Clock_tick ct_Clock_tick), sl_Clock_tick⟩)
    (he_Clock_tick : PySem.W.codeIn K cd_Clock_tick "Clock.tick" = true)
    (hk_Clock_tick : PySem.W.keepIn K (.ref f_Clock_tick) = true)
    (ha_Clock_whistle : PySem.W.findIn K (.ref c_Clock) "whistle" = some (some (.ref f_Clock_whistle)))
    (hi_Clock_whistle : PySem.W.isFn K (.ref f_Clock_whistle) = true)
    (hl_Clock_whistle : K.lookup f_Clock_whistle = some ⟨oc_Clock_whistle, od_Clock_whistle, .func (PySem.W.fnOf "whistle" "Clock.whistle" (defArgs st_Clock_whistle) (defBody st_Clock_whistle) (defScope st_Clock_whistle) .none kV_Clock_whistle dc_Clock_whistle pm_Clock_whistle an_Clock_whistle cd_Clock_whistle ct_Clock_whistle), sl_Clock_whistle⟩)
    (he_Clock_whistle : PySem.W.codeIn K cd_Clock_whistle "Clock.whistle" = true)
    (hk_Clock_whistle : PySem.W.keepIn K (.ref f_Clock_whistle) = true)
    (ha_Clock_minute : PySem.W.findIn K (.ref c_Clock) "minute" = some (some (.ref f_Clock_minute)))
    (hi_Clock_minute : PySem.W.isFn K (.ref f_Clock_minute) = true)
    (hl_Clock_minute : K.lookup f_Clock_minute = some ⟨oc_Clock_minute, od_Clock_minute, .func (PySem.W.fnOf "minute" "Clock.minute" (defArgs st_Clock_minute) (defBody st_Clock_minute) (defScope st_Clock_minute) .none kV_Clock_minute dc_Clock_minute pm_Clock_minute an_Clock_minute cd_Clock_minute ct_Clock_minute), sl_Clock_minute⟩)
    (he_Clock_minute : PySem.W.codeIn K cd_Clock_minute "Clock.minute" = true)
    (hk_Clock_minute : PySem.W.keepIn K (.ref f_Clock_minute) = true)
    (ha_other : PySem.W.nsIn K mainGlobals "other" = some (some (.ref f_other)))
    (hl_other : K.lookup f_other = some ⟨oc_other, od_other, .func (PySem.W.fnOf "other" "other" (defArgs st_other) (defBody st_other) (defScope st_other) .none kV_other dc_other pm_other an_other cd_other ct_other), sl_other⟩)
    (he_other : PySem.W.codeIn K cd_other "other" = true)
    (hk_other : PySem.W.keepIn K (.ref f_other) = true)
    (ha_won_by : PySem.W.nsIn K mainGlobals "won_by" = some (some (.ref f_won_by)))
    (hl_won_by : K.lookup f_won_by = some ⟨oc_won_by, od_won_by, .func (PySem.W.fnOf "won_by" "won_by" (defArgs st_won_by) (defBody st_won_by) (defScope st_won_by) .none kV_won_by dc_won_by pm_won_by an_won_by cd_won_by ct_won_by), sl_won_by⟩)
    (he_won_by : PySem.W.codeIn K cd_won_by "won_by" = true)
    (hk_won_by : PySem.W.keepIn K (.ref f_won_by) = true)
    (ha_first_places : PySem.W.nsIn K mainGlobals "first_places" = some (some (.ref f_first_places)))
    (hl_first_places : K.lookup f_first_places = some ⟨oc_first_places, od_first_places, .func (PySem.W.fnOf "first_places" "first_places" (defArgs st_first_places) (defBody st_first_places) (defScope st_first_places) .none kV_first_places dc_first_places pm_first_places an_first_places cd_first_places ct_first_places), sl_first_places⟩)
    (he_first_places : PySem.W.codeIn K cd_first_places "first_places" = true)
    (hk_first_places : PySem.W.keepIn K (.ref f_first_places) = true)
    (ha_as_bits : PySem.W.nsIn K mainGlobals "as_bits" = some (some (.ref f_as_bits)))
    (hl_as_bits : K.lookup f_as_bits = some ⟨oc_as_bits, od_as_bits, .func (PySem.W.fnOf "as_bits" "as_bits" (defArgs st_as_bits) (defBody st_as_bits) (defScope st_as_bits) .none kV_as_bits dc_as_bits pm_as_bits an_as_bits cd_as_bits ct_as_bits), sl_as_bits⟩)
    (he_as_bits : PySem.W.codeIn K cd_as_bits "as_bits" = true)
    (hk_as_bits : PySem.W.keepIn K (.ref f_as_bits) = true)
    (ha_Field_init : PySem.W.findIn K (.ref c_Field) "__init__" = some (some (.ref f_Field_init)))
    (hi_Field_init : PySem.W.isFn K (.ref f_Field_init) = true)
    (hl_Field_init : K.lookup f_Field_init = some ⟨oc_Field_init, od_Field_init, .func (PySem.W.fnOf "__init__" "Field.__init__" (defArgs st_Field_init) (defBody st_Field_init) (defScope st_Field_init) .none kV_Field_init dc_Field_init pm_Field_init an_Field_init cd_Field_init ct_Field_init), sl_Field_init⟩)
    (he_Field_init : PySem.W.codeIn K cd_Field_init "Field.__init__" = true)
    (hk_Field_init : PySem.W.keepIn K (.ref f_Field_init) = true)
    (ha_Field_set_play : PySem.W.findIn K (.ref c_Field) "set_play" = some (some (.ref f_Field_set_play)))
    (hi_Field_set_play : PySem.W.isFn K (.ref f_Field_set_play) = true)
    (hl_Field_set_play : K.lookup f_Field_set_play = some ⟨oc_Field_set_play, od_Field_set_play, .func (PySem.W.fnOf "set_play" "Field.set_play" (defArgs st_Field_set_play) (defBody st_Field_set_play) (defScope st_Field_set_play) .none kV_Field_set_play dc_Field_set_play pm_Field_set_play an_Field_set_play cd_Field_set_play ct_Field_set_play), sl_Field_set_play⟩)
    (he_Field_set_play : PySem.W.codeIn K cd_Field_set_play "Field.set_play" = true)
    (hk_Field_set_play : PySem.W.keepIn K (.ref f_Field_set_play) = true)
    (ha_Field_is_standing : PySem.W.findIn K (.ref c_Field) "is_standing" = some (some (.ref f_Field_is_standing)))
    (hi_Field_is_standing : PySem.W.isFn K (.ref f_Field_is_standing) = true)
    (hl_Field_is_standing : K.lookup f_Field_is_standing = some ⟨oc_Field_is_standing, od_Field_is_standing, .func (PySem.W.fnOf "is_standing" "Field.is_standing" (defArgs st_Field_is_standing) (defBody st_Field_is_standing) (defScope st_Field_is_standing) .none kV_Field_is_standing dc_Field_is_standing pm_Field_is_standing an_Field_is_standing cd_Field_is_standing ct_Field_is_standing), sl_Field_is_standing⟩)
    (he_Field_is_standing : PySem.W.codeIn K cd_Field_is_standing "Field.is_standing" = true)
    (hk_Field_is_standing : PySem.W.keepIn K (.ref f_Field_is_standing) = true)
    (ha_Field_is_on : PySem.W.findIn K (.ref c_Field) "is_on" = some (some (.ref f_Field_is_on)))
    (hi_Field_is_on : PySem.W.isFn K (.ref f_Field_is_on) = true)
    (hl_Field_is_on : K.lookup f_Field_is_on = some ⟨oc_Field_is_on, od_Field_is_on, .func (PySem.W.fnOf "is_on" "Field.is_on" (defArgs st_Field_is_on) (defBody st_Field_is_on) (defScope st_Field_is_on) .none kV_Field_is_on dc_Field_is_on pm_Field_is_on an_Field_is_on cd_Field_is_on ct_Field_is_on), sl_Field_is_on⟩)
    (he_Field_is_on : PySem.W.codeIn K cd_Field_is_on "Field.is_on" = true)
    (hk_Field_is_on : PySem.W.keepIn K (.ref f_Field_is_on) = true)
    (ha_Field_players_on : PySem.W.findIn K (.ref c_Field) "players_on" = some (some (.ref f_Field_players_on)))
    (hi_Field_players_on : PySem.W.isFn K (.ref f_Field_players_on) = true)
    (hl_Field_players_on : K.lookup f_Field_players_on = some ⟨oc_Field_players_on, od_Field_players_on, .func (PySem.W.fnOf "players_on" "Field.players_on" (defArgs st_Field_players_on) (defBody st_Field_players_on) (defScope st_Field_players_on) .none kV_Field_players_on dc_Field_players_on pm_Field_players_on an_Field_players_on cd_Field_players_on ct_Field_players_on), sl_Field_players_on⟩)
    (he_Field_players_on : PySem.W.codeIn K cd_Field_players_on "Field.players_on" = true)
    (hk_Field_players_on : PySem.W.keepIn K (.ref f_Field_players_on) = true)
    (ha_Field_too_few : PySem.W.findIn K (.ref c_Field) "too_few" = some (some (.ref f_Field_too_few)))
    (hi_Field_too_few : PySem.W.isFn K (.ref f_Field_too_few) = true)
    (hl_Field_too_few : K.lookup f_Field_too_few = some ⟨oc_Field_too_few, od_Field_too_few, .func (PySem.W.fnOf "too_few" "Field.too_few" (defArgs st_Field_too_few) (defBody st_Field_too_few) (defScope st_Field_too_few) .none kV_Field_too_few dc_Field_too_few pm_Field_too_few an_Field_too_few cd_Field_too_few ct_Field_too_few), sl_Field_too_few⟩)
    (he_Field_too_few : PySem.W.codeIn K cd_Field_too_few "Field.too_few" = true)
    (hk_Field_too_few : PySem.W.keepIn K (.ref f_Field_too_few) = true)
    (ha_Field_on : PySem.W.findIn K (.ref c_Field) "on" = some (some (.ref f_Field_on)))
    (hi_Field_on : PySem.W.isFn K (.ref f_Field_on) = true)
    (hl_Field_on : K.lookup f_Field_on = some ⟨oc_Field_on, od_Field_on, .func (PySem.W.fnOf "on" "Field.on" (defArgs st_Field_on) (defBody st_Field_on) (defScope st_Field_on) .none kV_Field_on dc_Field_on pm_Field_on an_Field_on cd_Field_on ct_Field_on), sl_Field_on⟩)
    (he_Field_on : PySem.W.codeIn K cd_Field_on "Field.on" = true)
    (hk_Field_on : PySem.W.keepIn K (.ref f_Field_on) = true)
    (ha_Field_card : PySem.W.findIn K (.ref c_Field) "card" = some (some (.ref f_Field_card)))
    (hi_Field_card : PySem.W.isFn K (.ref f_Field_card) = true)
    (hl_Field_card : K.lookup f_Field_card = some ⟨oc_Field_card, od_Field_card, .func (PySem.W.fnOf "card" "Field.card" (defArgs st_Field_card) (defBody st_Field_card) (defScope st_Field_card) .none kV_Field_card dc_Field_card pm_Field_card an_Field_card cd_Field_card ct_Field_card), sl_Field_card⟩)
    (he_Field_card : PySem.W.codeIn K cd_Field_card "Field.card" = true)
    (hk_Field_card : PySem.W.keepIn K (.ref f_Field_card) = true)
    (ha_Field_change : PySem.W.findIn K (.ref c_Field) "change" = some (some (.ref f_Field_change)))
    (hi_Field_change : PySem.W.isFn K (.ref f_Field_change) = true)
    (hl_Field_change : K.lookup f_Field_change = some ⟨oc_Field_change, od_Field_change, .func (PySem.W.fnOf "change" "Field.change" (defArgs st_Field_change) (defBody st_Field_change) (defScope st_Field_change) .none kV_Field_change dc_Field_change pm_Field_change an_Field_change cd_Field_change ct_Field_change), sl_Field_change⟩)
    (he_Field_change : PySem.W.codeIn K cd_Field_change "Field.change" = true)
    (hk_Field_change : PySem.W.keepIn K (.ref f_Field_change) = true)
    (ha_Field_change_refusal : PySem.W.findIn K (.ref c_Field) "change_refusal" = some (some (.ref f_Field_change_refusal)))
    (hi_Field_change_refusal : PySem.W.isFn K (.ref f_Field_change_refusal) = true)
    (hl_Field_change_refusal : K.lookup f_Field_change_refusal = some ⟨oc_Field_change_refusal, od_Field_change_refusal, .func (PySem.W.fnOf "change_refusal" "Field.change_refusal" (defArgs st_Field_change_refusal) (defBody st_Field_change_refusal) (defScope st_Field_change_refusal) .none kV_Field_change_refusal dc_Field_change_refusal pm_Field_change_refusal an_Field_change_refusal cd_Field_change_refusal ct_Field_change_refusal), sl_Field_change_refusal⟩)
    (he_Field_change_refusal : PySem.W.codeIn K cd_Field_change_refusal "Field.change_refusal" = true)
    (hk_Field_change_refusal : PySem.W.keepIn K (.ref f_Field_change_refusal) = true)
    (ha_Field_needs_window : PySem.W.findIn K (.ref c_Field) "needs_window" = some (some (.ref f_Field_needs_window)))
    (hi_Field_needs_window : PySem.W.isFn K (.ref f_Field_needs_window) = true)
    (hl_Field_needs_window : K.lookup f_Field_needs_window = some ⟨oc_Field_needs_window, od_Field_needs_window, .func (PySem.W.fnOf "needs_window" "Field.needs_window" (defArgs st_Field_needs_window) (defBody st_Field_needs_window) (defScope st_Field_needs_window) .none kV_Field_needs_window dc_Field_needs_window pm_Field_needs_window an_Field_needs_window cd_Field_needs_window ct_Field_needs_window), sl_Field_needs_window⟩)
    (he_Field_needs_window : PySem.W.codeIn K cd_Field_needs_window "Field.needs_window" = true)
    (hk_Field_needs_window : PySem.W.keepIn K (.ref f_Field_needs_window) = true)
    (ha_Field_take_window : PySem.W.findIn K (.ref c_Field) "take_window" = some (some (.ref f_Field_take_window)))
    (hi_Field_take_window : PySem.W.isFn K (.ref f_Field_take_window) = true)
    (hl_Field_take_window : K.lookup f_Field_take_window = some ⟨oc_Field_take_window, od_Field_take_window, .func (PySem.W.fnOf "take_window" "Field.take_window" (defArgs st_Field_take_window) (defBody st_Field_take_window) (defScope st_Field_take_window) .none kV_Field_take_window dc_Field_take_window pm_Field_take_window an_Field_take_window cd_Field_take_window ct_Field_take_window), sl_Field_take_window⟩)
    (he_Field_take_window : PySem.W.codeIn K cd_Field_take_window "Field.take_window" = true)
    (hk_Field_take_window : PySem.W.keepIn K (.ref f_Field_take_window) = true)
    (ha_Field_goal : PySem.W.findIn K (.ref c_Field) "goal" = some (some (.ref f_Field_goal)))
    (hi_Field_goal : PySem.W.isFn K (.ref f_Field_goal) = true)
    (hl_Field_goal : K.lookup f_Field_goal = some ⟨oc_Field_goal, od_Field_goal, .func (PySem.W.fnOf "goal" "Field.goal" (defArgs st_Field_goal) (defBody st_Field_goal) (defScope st_Field_goal) .none kV_Field_goal dc_Field_goal pm_Field_goal an_Field_goal cd_Field_goal ct_Field_goal), sl_Field_goal⟩)
    (he_Field_goal : PySem.W.codeIn K cd_Field_goal "Field.goal" = true)
    (hk_Field_goal : PySem.W.keepIn K (.ref f_Field_goal) = true)
    (ha_Kicks_init : PySem.W.findIn K (.ref c_Kicks) "__init__" = some (some (.ref f_Kicks_init)))
    (hi_Kicks_init : PySem.W.isFn K (.ref f_Kicks_init) = true)
    (hl_Kicks_init : K.lookup f_Kicks_init = some ⟨oc_Kicks_init, od_Kicks_init, .func (PySem.W.fnOf "__init__" "Kicks.__init__" (defArgs st_Kicks_init) (defBody st_Kicks_init) (defScope st_Kicks_init) .none kV_Kicks_init dc_Kicks_init pm_Kicks_init an_Kicks_init cd_Kicks_init ct_Kicks_init), sl_Kicks_init⟩)
    (he_Kicks_init : PySem.W.codeIn K cd_Kicks_init "Kicks.__init__" = true)
    (hk_Kicks_init : PySem.W.keepIn K (.ref f_Kicks_init) = true)
    (ha_Kicks_all_taken : PySem.W.findIn K (.ref c_Kicks) "all_taken" = some (some (.ref f_Kicks_all_taken)))
    (hi_Kicks_all_taken : PySem.W.isFn K (.ref f_Kicks_all_taken) = true)
    (hl_Kicks_all_taken : K.lookup f_Kicks_all_taken = some ⟨oc_Kicks_all_taken, od_Kicks_all_taken, .func (PySem.W.fnOf "all_taken" "Kicks.all_taken" (defArgs st_Kicks_all_taken) (defBody st_Kicks_all_taken) (defScope st_Kicks_all_taken) .none kV_Kicks_all_taken dc_Kicks_all_taken pm_Kicks_all_taken an_Kicks_all_taken cd_Kicks_all_taken ct_Kicks_all_taken), sl_Kicks_all_taken⟩)
    (he_Kicks_all_taken : PySem.W.codeIn K cd_Kicks_all_taken "Kicks.all_taken" = true)
    (hk_Kicks_all_taken : PySem.W.keepIn K (.ref f_Kicks_all_taken) = true)
    (ha_Kicks_round_is_done : PySem.W.findIn K (.ref c_Kicks) "round_is_done" = some (some (.ref f_Kicks_round_is_done)))
    (hi_Kicks_round_is_done : PySem.W.isFn K (.ref f_Kicks_round_is_done) = true)
    (hl_Kicks_round_is_done : K.lookup f_Kicks_round_is_done = some ⟨oc_Kicks_round_is_done, od_Kicks_round_is_done, .func (PySem.W.fnOf "round_is_done" "Kicks.round_is_done" (defArgs st_Kicks_round_is_done) (defBody st_Kicks_round_is_done) (defScope st_Kicks_round_is_done) .none kV_Kicks_round_is_done dc_Kicks_round_is_done pm_Kicks_round_is_done an_Kicks_round_is_done cd_Kicks_round_is_done ct_Kicks_round_is_done), sl_Kicks_round_is_done⟩)
    (he_Kicks_round_is_done : PySem.W.codeIn K cd_Kicks_round_is_done "Kicks.round_is_done" = true)
    (hk_Kicks_round_is_done : PySem.W.keepIn K (.ref f_Kicks_round_is_done) = true)
    (ha_Kicks_must_wait : PySem.W.findIn K (.ref c_Kicks) "must_wait" = some (some (.ref f_Kicks_must_wait)))
    (hi_Kicks_must_wait : PySem.W.isFn K (.ref f_Kicks_must_wait) = true)
    (hl_Kicks_must_wait : K.lookup f_Kicks_must_wait = some ⟨oc_Kicks_must_wait, od_Kicks_must_wait, .func (PySem.W.fnOf "must_wait" "Kicks.must_wait" (defArgs st_Kicks_must_wait) (defBody st_Kicks_must_wait) (defScope st_Kicks_must_wait) .none kV_Kicks_must_wait dc_Kicks_must_wait pm_Kicks_must_wait an_Kicks_must_wait cd_Kicks_must_wait ct_Kicks_must_wait), sl_Kicks_must_wait⟩)
    (he_Kicks_must_wait : PySem.W.codeIn K cd_Kicks_must_wait "Kicks.must_wait" = true)
    (hk_Kicks_must_wait : PySem.W.keepIn K (.ref f_Kicks_must_wait) = true)
    (ha_Kicks_take : PySem.W.findIn K (.ref c_Kicks) "take" = some (some (.ref f_Kicks_take)))
    (hi_Kicks_take : PySem.W.isFn K (.ref f_Kicks_take) = true)
    (hl_Kicks_take : K.lookup f_Kicks_take = some ⟨oc_Kicks_take, od_Kicks_take, .func (PySem.W.fnOf "take" "Kicks.take" (defArgs st_Kicks_take) (defBody st_Kicks_take) (defScope st_Kicks_take) .none kV_Kicks_take dc_Kicks_take pm_Kicks_take an_Kicks_take cd_Kicks_take ct_Kicks_take), sl_Kicks_take⟩)
    (he_Kicks_take : PySem.W.codeIn K cd_Kicks_take "Kicks.take" = true)
    (hk_Kicks_take : PySem.W.keepIn K (.ref f_Kicks_take) = true)
    (ha_Kicks_decided_for : PySem.W.findIn K (.ref c_Kicks) "decided_for" = some (some (.ref f_Kicks_decided_for)))
    (hi_Kicks_decided_for : PySem.W.isFn K (.ref f_Kicks_decided_for) = true)
    (hl_Kicks_decided_for : K.lookup f_Kicks_decided_for = some ⟨oc_Kicks_decided_for, od_Kicks_decided_for, .func (PySem.W.fnOf "decided_for" "Kicks.decided_for" (defArgs st_Kicks_decided_for) (defBody st_Kicks_decided_for) (defScope st_Kicks_decided_for) .none kV_Kicks_decided_for dc_Kicks_decided_for pm_Kicks_decided_for an_Kicks_decided_for cd_Kicks_decided_for ct_Kicks_decided_for), sl_Kicks_decided_for⟩)
    (he_Kicks_decided_for : PySem.W.codeIn K cd_Kicks_decided_for "Kicks.decided_for" = true)
    (hk_Kicks_decided_for : PySem.W.keepIn K (.ref f_Kicks_decided_for) = true)
    (ha_Kicks_left : PySem.W.findIn K (.ref c_Kicks) "left" = some (some (.ref f_Kicks_left)))
    (hi_Kicks_left : PySem.W.isFn K (.ref f_Kicks_left) = true)
    (hl_Kicks_left : K.lookup f_Kicks_left = some ⟨oc_Kicks_left, od_Kicks_left, .func (PySem.W.fnOf "left" "Kicks.left" (defArgs st_Kicks_left) (defBody st_Kicks_left) (defScope st_Kicks_left) .none kV_Kicks_left dc_Kicks_left pm_Kicks_left an_Kicks_left cd_Kicks_left ct_Kicks_left), sl_Kicks_left⟩)
    (he_Kicks_left : PySem.W.codeIn K cd_Kicks_left "Kicks.left" = true)
    (hk_Kicks_left : PySem.W.keepIn K (.ref f_Kicks_left) = true)
    (ha_Game_init : PySem.W.findIn K (.ref c_Game) "__init__" = some (some (.ref f_Game_init)))
    (hi_Game_init : PySem.W.isFn K (.ref f_Game_init) = true)
    (hl_Game_init : K.lookup f_Game_init = some ⟨oc_Game_init, od_Game_init, .func (PySem.W.fnOf "__init__" "Game.__init__" (defArgs st_Game_init) (defBody st_Game_init) (defScope st_Game_init) .none kV_Game_init dc_Game_init pm_Game_init an_Game_init cd_Game_init ct_Game_init), sl_Game_init⟩)
    (he_Game_init : PySem.W.codeIn K cd_Game_init "Game.__init__" = true)
    (hk_Game_init : PySem.W.keepIn K (.ref f_Game_init) = true)
    (ha_Game_kick : PySem.W.findIn K (.ref c_Game) "kick" = some (some (.ref f_Game_kick)))
    (hi_Game_kick : PySem.W.isFn K (.ref f_Game_kick) = true)
    (hl_Game_kick : K.lookup f_Game_kick = some ⟨oc_Game_kick, od_Game_kick, .func (PySem.W.fnOf "kick" "Game.kick" (defArgs st_Game_kick) (defBody st_Game_kick) (defScope st_Game_kick) .none kV_Game_kick dc_Game_kick pm_Game_kick an_Game_kick cd_Game_kick ct_Game_kick), sl_Game_kick⟩)
    (he_Game_kick : PySem.W.codeIn K cd_Game_kick "Game.kick" = true)
    (hk_Game_kick : PySem.W.keepIn K (.ref f_Game_kick) = true)
    (ha_Game_tick : PySem.W.findIn K (.ref c_Game) "tick" = some (some (.ref f_Game_tick)))
    (hi_Game_tick : PySem.W.isFn K (.ref f_Game_tick) = true)
    (hl_Game_tick : K.lookup f_Game_tick = some ⟨oc_Game_tick, od_Game_tick, .func (PySem.W.fnOf "tick" "Game.tick" (defArgs st_Game_tick) (defBody st_Game_tick) (defScope st_Game_tick) .none kV_Game_tick dc_Game_tick pm_Game_tick an_Game_tick cd_Game_tick ct_Game_tick), sl_Game_tick⟩)
    (he_Game_tick : PySem.W.codeIn K cd_Game_tick "Game.tick" = true)
    (hk_Game_tick : PySem.W.keepIn K (.ref f_Game_tick) = true)
    (ha_Game_stop : PySem.W.findIn K (.ref c_Game) "stop" = some (some (.ref f_Game_stop)))
    (hi_Game_stop : PySem.W.isFn K (.ref f_Game_stop) = true)
    (hl_Game_stop : K.lookup f_Game_stop = some ⟨oc_Game_stop, od_Game_stop, .func (PySem.W.fnOf "stop" "Game.stop" (defArgs st_Game_stop) (defBody st_Game_stop) (defScope st_Game_stop) .none kV_Game_stop dc_Game_stop pm_Game_stop an_Game_stop cd_Game_stop ct_Game_stop), sl_Game_stop⟩)
    (he_Game_stop : PySem.W.codeIn K cd_Game_stop "Game.stop" = true)
    (hk_Game_stop : PySem.W.keepIn K (.ref f_Game_stop) = true)
    (ha_Game_whistle : PySem.W.findIn K (.ref c_Game) "whistle" = some (some (.ref f_Game_whistle)))
    (hi_Game_whistle : PySem.W.isFn K (.ref f_Game_whistle) = true)
    (hl_Game_whistle : K.lookup f_Game_whistle = some ⟨oc_Game_whistle, od_Game_whistle, .func (PySem.W.fnOf "whistle" "Game.whistle" (defArgs st_Game_whistle) (defBody st_Game_whistle) (defScope st_Game_whistle) .none kV_Game_whistle dc_Game_whistle pm_Game_whistle an_Game_whistle cd_Game_whistle ct_Game_whistle), sl_Game_whistle⟩)
    (he_Game_whistle : PySem.W.codeIn K cd_Game_whistle "Game.whistle" = true)
    (hk_Game_whistle : PySem.W.keepIn K (.ref f_Game_whistle) = true)
    (ha_Game_settle : PySem.W.findIn K (.ref c_Game) "settle" = some (some (.ref f_Game_settle)))
    (hi_Game_settle : PySem.W.isFn K (.ref f_Game_settle) = true)
    (hl_Game_settle : K.lookup f_Game_settle = some ⟨oc_Game_settle, od_Game_settle, .func (PySem.W.fnOf "settle" "Game.settle" (defArgs st_Game_settle) (defBody st_Game_settle) (defScope st_Game_settle) .none kV_Game_settle dc_Game_settle pm_Game_settle an_Game_settle cd_Game_settle ct_Game_settle), sl_Game_settle⟩)
    (he_Game_settle : PySem.W.codeIn K cd_Game_settle "Game.settle" = true)
    (hk_Game_settle : PySem.W.keepIn K (.ref f_Game_settle) = true)
    (ha_Game_card : PySem.W.findIn K (.ref c_Game) "card" = some (some (.ref f_Game_card)))
    (hi_Game_card : PySem.W.isFn K (.ref f_Game_card) = true)
    (hl_Game_card : K.lookup f_Game_card = some ⟨oc_Game_card, od_Game_card, .func (PySem.W.fnOf "card" "Game.card" (defArgs st_Game_card) (defBody st_Game_card) (defScope st_Game_card) .none kV_Game_card dc_Game_card pm_Game_card an_Game_card cd_Game_card ct_Game_card), sl_Game_card⟩)
    (he_Game_card : PySem.W.codeIn K cd_Game_card "Game.card" = true)
    (hk_Game_card : PySem.W.keepIn K (.ref f_Game_card) = true)
    (ha_Game_change : PySem.W.findIn K (.ref c_Game) "change" = some (some (.ref f_Game_change)))
    (hi_Game_change : PySem.W.isFn K (.ref f_Game_change) = true)
    (hl_Game_change : K.lookup f_Game_change = some ⟨oc_Game_change, od_Game_change, .func (PySem.W.fnOf "change" "Game.change" (defArgs st_Game_change) (defBody st_Game_change) (defScope st_Game_change) .none kV_Game_change dc_Game_change pm_Game_change an_Game_change cd_Game_change ct_Game_change), sl_Game_change⟩)
    (he_Game_change : PySem.W.codeIn K cd_Game_change "Game.change" = true)
    (hk_Game_change : PySem.W.keepIn K (.ref f_Game_change) = true)
    (ha_Game_goal : PySem.W.findIn K (.ref c_Game) "goal" = some (some (.ref f_Game_goal)))
    (hi_Game_goal : PySem.W.isFn K (.ref f_Game_goal) = true)
    (hl_Game_goal : K.lookup f_Game_goal = some ⟨oc_Game_goal, od_Game_goal, .func (PySem.W.fnOf "goal" "Game.goal" (defArgs st_Game_goal) (defBody st_Game_goal) (defScope st_Game_goal) .none kV_Game_goal dc_Game_goal pm_Game_goal an_Game_goal cd_Game_goal ct_Game_goal), sl_Game_goal⟩)
    (he_Game_goal : PySem.W.codeIn K cd_Game_goal "Game.goal" = true)
    (hk_Game_goal : PySem.W.keepIn K (.ref f_Game_goal) = true)
    (ha_Game_first : PySem.W.findIn K (.ref c_Game) "first" = some (some (.ref f_Game_first)))
    (hi_Game_first : PySem.W.isFn K (.ref f_Game_first) = true)
    (hl_Game_first : K.lookup f_Game_first = some ⟨oc_Game_first, od_Game_first, .func (PySem.W.fnOf "first" "Game.first" (defArgs st_Game_first) (defBody st_Game_first) (defScope st_Game_first) .none kV_Game_first dc_Game_first pm_Game_first an_Game_first cd_Game_first ct_Game_first), sl_Game_first⟩)
    (he_Game_first : PySem.W.codeIn K cd_Game_first "Game.first" = true)
    (hk_Game_first : PySem.W.keepIn K (.ref f_Game_first) = true)
    (ha_Game_shoot : PySem.W.findIn K (.ref c_Game) "shoot" = some (some (.ref f_Game_shoot)))
    (hi_Game_shoot : PySem.W.isFn K (.ref f_Game_shoot) = true)
    (hl_Game_shoot : K.lookup f_Game_shoot = some ⟨oc_Game_shoot, od_Game_shoot, .func (PySem.W.fnOf "shoot" "Game.shoot" (defArgs st_Game_shoot) (defBody st_Game_shoot) (defScope st_Game_shoot) .none kV_Game_shoot dc_Game_shoot pm_Game_shoot an_Game_shoot cd_Game_shoot ct_Game_shoot), sl_Game_shoot⟩)
    (he_Game_shoot : PySem.W.codeIn K cd_Game_shoot "Game.shoot" = true)
    (hk_Game_shoot : PySem.W.keepIn K (.ref f_Game_shoot) = true)
    (ha_Game_shoot_refusal : PySem.W.findIn K (.ref c_Game) "shoot_refusal" = some (some (.ref f_Game_shoot_refusal)))
    (hi_Game_shoot_refusal : PySem.W.isFn K (.ref f_Game_shoot_refusal) = true)
    (hl_Game_shoot_refusal : K.lookup f_Game_shoot_refusal = some ⟨oc_Game_shoot_refusal, od_Game_shoot_refusal, .func (PySem.W.fnOf "shoot_refusal" "Game.shoot_refusal" (defArgs st_Game_shoot_refusal) (defBody st_Game_shoot_refusal) (defScope st_Game_shoot_refusal) .none kV_Game_shoot_refusal dc_Game_shoot_refusal pm_Game_shoot_refusal an_Game_shoot_refusal cd_Game_shoot_refusal ct_Game_shoot_refusal), sl_Game_shoot_refusal⟩)
    (he_Game_shoot_refusal : PySem.W.codeIn K cd_Game_shoot_refusal "Game.shoot_refusal" = true)
    (hk_Game_shoot_refusal : PySem.W.keepIn K (.ref f_Game_shoot_refusal) = true)
    (ha_Game_score : PySem.W.findIn K (.ref c_Game) "score" = some (some (.ref f_Game_score)))
    (hi_Game_score : PySem.W.isFn K (.ref f_Game_score) = true)
    (hl_Game_score : K.lookup f_Game_score = some ⟨oc_Game_score, od_Game_score, .func (PySem.W.fnOf "score" "Game.score" (defArgs st_Game_score) (defBody st_Game_score) (defScope st_Game_score) .none kV_Game_score dc_Game_score pm_Game_score an_Game_score cd_Game_score ct_Game_score), sl_Game_score⟩)
    (he_Game_score : PySem.W.codeIn K cd_Game_score "Game.score" = true)
    (hk_Game_score : PySem.W.keepIn K (.ref f_Game_score) = true)
    (ha_Game_on : PySem.W.findIn K (.ref c_Game) "on" = some (some (.ref f_Game_on)))
    (hi_Game_on : PySem.W.isFn K (.ref f_Game_on) = true)
    (hl_Game_on : K.lookup f_Game_on = some ⟨oc_Game_on, od_Game_on, .func (PySem.W.fnOf "on" "Game.on" (defArgs st_Game_on) (defBody st_Game_on) (defScope st_Game_on) .none kV_Game_on dc_Game_on pm_Game_on an_Game_on cd_Game_on ct_Game_on), sl_Game_on⟩)
    (he_Game_on : PySem.W.codeIn K cd_Game_on "Game.on" = true)
    (hk_Game_on : PySem.W.keepIn K (.ref f_Game_on) = true)
    (ha_Game_minute : PySem.W.findIn K (.ref c_Game) "minute" = some (some (.ref f_Game_minute)))
    (hi_Game_minute : PySem.W.isFn K (.ref f_Game_minute) = true)
    (hl_Game_minute : K.lookup f_Game_minute = some ⟨oc_Game_minute, od_Game_minute, .func (PySem.W.fnOf "minute" "Game.minute" (defArgs st_Game_minute) (defBody st_Game_minute) (defScope st_Game_minute) .none kV_Game_minute dc_Game_minute pm_Game_minute an_Game_minute cd_Game_minute ct_Game_minute), sl_Game_minute⟩)
    (he_Game_minute : PySem.W.codeIn K cd_Game_minute "Game.minute" = true)
    (hk_Game_minute : PySem.W.keepIn K (.ref f_Game_minute) = true)
    (ha_answers : PySem.W.nsIn K mainGlobals "answers" = some (some (.ref f_answers)))
    (hl_answers : K.lookup f_answers = some ⟨oc_answers, od_answers, .func (PySem.W.fnOf "answers" "answers" (defArgs st_answers) (defBody st_answers) (defScope st_answers) .none kV_answers dc_answers pm_answers an_answers cd_answers ct_answers), sl_answers⟩)
    (he_answers : PySem.W.codeIn K cd_answers "answers" = true)
    (hk_answers : PySem.W.keepIn K (.ref f_answers) = true)
    (ha_numbers_of : PySem.W.nsIn K mainGlobals "numbers_of" = some (some (.ref f_numbers_of)))
    (hl_numbers_of : K.lookup f_numbers_of = some ⟨oc_numbers_of, od_numbers_of, .func (PySem.W.fnOf "numbers_of" "numbers_of" (defArgs st_numbers_of) (defBody st_numbers_of) (defScope st_numbers_of) .none kV_numbers_of dc_numbers_of pm_numbers_of an_numbers_of cd_numbers_of ct_numbers_of), sl_numbers_of⟩)
    (he_numbers_of : PySem.W.codeIn K cd_numbers_of "numbers_of" = true)
    (hk_numbers_of : PySem.W.keepIn K (.ref f_numbers_of) = true)
    (ha_answer_of : PySem.W.nsIn K mainGlobals "answer_of" = some (some (.ref f_answer_of)))
    (hl_answer_of : K.lookup f_answer_of = some ⟨oc_answer_of, od_answer_of, .func (PySem.W.fnOf "answer_of" "answer_of" (defArgs st_answer_of) (defBody st_answer_of) (defScope st_answer_of) .none kV_answer_of dc_answer_of pm_answer_of an_answer_of cd_answer_of ct_answer_of), sl_answer_of⟩)
    (he_answer_of : PySem.W.codeIn K cd_answer_of "answer_of" = true)
    (hk_answer_of : PySem.W.keepIn K (.ref f_answer_of) = true)
    : ∃ a : Ad, Txt K mg a ∧ ∀ (s : Shared) (u : Value), BindsTo s a.d_answers ⟨[u], []⟩ [("calls", u)] := by
  have F_lengths_allowed := fun_mk (st := st_lengths_allowed) hl_lengths_allowed he_lengths_allowed hk_lengths_allowed
  have B_lengths_allowed := F_lengths_allowed.binds (ps := ["half", "extra"]) fun _ _ _ _ _ _ us hl => match us, hl with | [_, _], _ => rfl
  have F_minutes_rounded_up := fun_mk (st := st_minutes_rounded_up) hl_minutes_rounded_up he_minutes_rounded_up hk_minutes_rounded_up
  have B_minutes_rounded_up := F_minutes_rounded_up.binds (ps := ["seconds"]) fun _ _ _ _ _ _ us hl => match us, hl with | [_], _ => rfl
  have F_Clock_init := fun_mk (st := st_Clock_init) hl_Clock_init he_Clock_init hk_Clock_init
  have B_Clock_init := F_Clock_init.binds (ps := ["self", "half", "extra"]) fun _ _ _ _ _ _ us hl => match us, hl with | [_, _, _], _ => rfl
  have F_Clock_all_played := fun_mk (st := st_Clock_all_played) hl_Clock_all_played he_Clock_all_played hk_Clock_all_played
  have B_Clock_all_played := F_Clock_all_played.binds (ps := ["self"]) fun _ _ _ _ _ _ us hl => match us, hl with | [_], _ => rfl
  have F_Clock_length := fun_mk (st := st_Clock_length) hl_Clock_length he_Clock_length hk_Clock_length
  have B_Clock_length := F_Clock_length.binds (ps := ["self"]) fun _ _ _ _ _ _ us hl => match us, hl with | [_], _ => rfl
  have F_Clock_kick := fun_mk (st := st_Clock_kick) hl_Clock_kick he_Clock_kick hk_Clock_kick
  have B_Clock_kick := F_Clock_kick.binds (ps := ["self"]) fun _ _ _ _ _ _ us hl => match us, hl with | [_], _ => rfl
  have F_Clock_tick := fun_mk (st := st_Clock_tick) hl_Clock_tick he_Clock_tick hk_Clock_tick
  have B_Clock_tick := F_Clock_tick.binds (ps := ["self", "seconds", "standing"]) fun _ _ _ _ _ _ us hl => match us, hl with | [_, _, _], _ => rfl
  have F_Clock_whistle := fun_mk (st := st_Clock_whistle) hl_Clock_whistle he_Clock_whistle hk_Clock_whistle
  have B_Clock_whistle := F_Clock_whistle.binds (ps := ["self"]) fun _ _ _ _ _ _ us hl => match us, hl with | [_], _ => rfl
  have F_Clock_minute := fun_mk (st := st_Clock_minute) hl_Clock_minute he_Clock_minute hk_Clock_minute
  have B_Clock_minute := F_Clock_minute.binds (ps := ["self"]) fun _ _ _ _ _ _ us hl => match us, hl with | [_], _ => rfl
  have F_other := fun_mk (st := st_other) hl_other he_other hk_other
  have B_other := F_other.binds (ps := ["team"]) fun _ _ _ _ _ _ us hl => match us, hl with | [_], _ => rfl
  have F_won_by := fun_mk (st := st_won_by) hl_won_by he_won_by hk_won_by
  have B_won_by := F_won_by.binds (ps := ["team"]) fun _ _ _ _ _ _ us hl => match us, hl with | [_], _ => rfl
  have F_first_places := fun_mk (st := st_first_places) hl_first_places he_first_places hk_first_places
  have B_first_places := F_first_places.binds (ps := []) fun _ _ _ _ _ _ us hl => match us, hl with | [], _ => rfl
  have F_as_bits := fun_mk (st := st_as_bits) hl_as_bits he_as_bits hk_as_bits
  have B_as_bits := F_as_bits.binds (ps := ["players"]) fun _ _ _ _ _ _ us hl => match us, hl with | [_], _ => rfl
  have F_Field_init := fun_mk (st := st_Field_init) hl_Field_init he_Field_init hk_Field_init
  have B_Field_init := F_Field_init.binds (ps := ["self"]) fun _ _ _ _ _ _ us hl => match us, hl with | [_], _ => rfl
  have F_Field_set_play := fun_mk (st := st_Field_set_play) hl_Field_set_play he_Field_set_play hk_Field_set_play
  have B_Field_set_play := F_Field_set_play.binds (ps := ["self", "play"]) fun _ _ _ _ _ _ us hl => match us, hl with | [_, _], _ => rfl
  have F_Field_is_standing := fun_mk (st := st_Field_is_standing) hl_Field_is_standing he_Field_is_standing hk_Field_is_standing
  have B_Field_is_standing := F_Field_is_standing.binds (ps := ["self"]) fun _ _ _ _ _ _ us hl => match us, hl with | [_], _ => rfl
  have F_Field_is_on := fun_mk (st := st_Field_is_on) hl_Field_is_on he_Field_is_on hk_Field_is_on
  have B_Field_is_on := F_Field_is_on.binds (ps := ["self", "team", "player"]) fun _ _ _ _ _ _ us hl => match us, hl with | [_, _, _], _ => rfl
  have F_Field_players_on := fun_mk (st := st_Field_players_on) hl_Field_players_on he_Field_players_on hk_Field_players_on
  have B_Field_players_on := F_Field_players_on.binds (ps := ["self", "team"]) fun _ _ _ _ _ _ us hl => match us, hl with | [_, _], _ => rfl
  have F_Field_too_few := fun_mk (st := st_Field_too_few) hl_Field_too_few he_Field_too_few hk_Field_too_few
  have B_Field_too_few := F_Field_too_few.binds (ps := ["self", "team"]) fun _ _ _ _ _ _ us hl => match us, hl with | [_, _], _ => rfl
  have F_Field_on := fun_mk (st := st_Field_on) hl_Field_on he_Field_on hk_Field_on
  have B_Field_on := F_Field_on.binds (ps := ["self", "team"]) fun _ _ _ _ _ _ us hl => match us, hl with | [_, _], _ => rfl
  have F_Field_card := fun_mk (st := st_Field_card) hl_Field_card he_Field_card hk_Field_card
  have B_Field_card := F_Field_card.binds (ps := ["self", "team", "player", "colour"]) fun _ _ _ _ _ _ us hl => match us, hl with | [_, _, _, _], _ => rfl
  have F_Field_change := fun_mk (st := st_Field_change) hl_Field_change he_Field_change hk_Field_change
  have B_Field_change := F_Field_change.binds (ps := ["self", "team", "leaving", "coming", "barred"]) fun _ _ _ _ _ _ us hl => match us, hl with | [_, _, _, _, _], _ => rfl
  have F_Field_change_refusal := fun_mk (st := st_Field_change_refusal) hl_Field_change_refusal he_Field_change_refusal hk_Field_change_refusal
  have B_Field_change_refusal := F_Field_change_refusal.binds (ps := ["self", "team", "leaving", "coming", "barred"]) fun _ _ _ _ _ _ us hl => match us, hl with | [_, _, _, _, _], _ => rfl
  have F_Field_needs_window := fun_mk (st := st_Field_needs_window) hl_Field_needs_window he_Field_needs_window hk_Field_needs_window
  have B_Field_needs_window := F_Field_needs_window.binds (ps := ["self", "team"]) fun _ _ _ _ _ _ us hl => match us, hl with | [_, _], _ => rfl
  have F_Field_take_window := fun_mk (st := st_Field_take_window) hl_Field_take_window he_Field_take_window hk_Field_take_window
  have B_Field_take_window := F_Field_take_window.binds (ps := ["self", "team"]) fun _ _ _ _ _ _ us hl => match us, hl with | [_, _], _ => rfl
  have F_Field_goal := fun_mk (st := st_Field_goal) hl_Field_goal he_Field_goal hk_Field_goal
  have B_Field_goal := F_Field_goal.binds (ps := ["self", "team", "player", "own"]) fun _ _ _ _ _ _ us hl => match us, hl with | [_, _, _, _], _ => rfl
  have F_Kicks_init := fun_mk (st := st_Kicks_init) hl_Kicks_init he_Kicks_init hk_Kicks_init
  have B_Kicks_init := F_Kicks_init.binds (ps := ["self", "beginner"]) fun _ _ _ _ _ _ us hl => match us, hl with | [_, _], _ => rfl
  have F_Kicks_all_taken := fun_mk (st := st_Kicks_all_taken) hl_Kicks_all_taken he_Kicks_all_taken hk_Kicks_all_taken
  have B_Kicks_all_taken := F_Kicks_all_taken.binds (ps := ["self"]) fun _ _ _ _ _ _ us hl => match us, hl with | [_], _ => rfl
  have F_Kicks_round_is_done := fun_mk (st := st_Kicks_round_is_done) hl_Kicks_round_is_done he_Kicks_round_is_done hk_Kicks_round_is_done
  have B_Kicks_round_is_done := F_Kicks_round_is_done.binds (ps := ["self", "players_on"]) fun _ _ _ _ _ _ us hl => match us, hl with | [_, _], _ => rfl
  have F_Kicks_must_wait := fun_mk (st := st_Kicks_must_wait) hl_Kicks_must_wait he_Kicks_must_wait hk_Kicks_must_wait
  have B_Kicks_must_wait := F_Kicks_must_wait.binds (ps := ["self", "player", "players_on"]) fun _ _ _ _ _ _ us hl => match us, hl with | [_, _, _], _ => rfl
  have F_Kicks_take := fun_mk (st := st_Kicks_take) hl_Kicks_take he_Kicks_take hk_Kicks_take
  have B_Kicks_take := F_Kicks_take.binds (ps := ["self", "player", "scored", "players_on"]) fun _ _ _ _ _ _ us hl => match us, hl with | [_, _, _, _], _ => rfl
  have F_Kicks_decided_for := fun_mk (st := st_Kicks_decided_for) hl_Kicks_decided_for he_Kicks_decided_for hk_Kicks_decided_for
  have B_Kicks_decided_for := F_Kicks_decided_for.binds (ps := ["self"]) fun _ _ _ _ _ _ us hl => match us, hl with | [_], _ => rfl
  have F_Kicks_left := fun_mk (st := st_Kicks_left) hl_Kicks_left he_Kicks_left hk_Kicks_left
  have B_Kicks_left := F_Kicks_left.binds (ps := ["self", "team"]) fun _ _ _ _ _ _ us hl => match us, hl with | [_, _], _ => rfl
  have F_Game_init := fun_mk (st := st_Game_init) hl_Game_init he_Game_init hk_Game_init
  have B_Game_init := F_Game_init.binds (ps := ["self", "half", "extra"]) fun _ _ _ _ _ _ us hl => match us, hl with | [_, _, _], _ => rfl
  have F_Game_kick := fun_mk (st := st_Game_kick) hl_Game_kick he_Game_kick hk_Game_kick
  have B_Game_kick := F_Game_kick.binds (ps := ["self"]) fun _ _ _ _ _ _ us hl => match us, hl with | [_], _ => rfl
  have F_Game_tick := fun_mk (st := st_Game_tick) hl_Game_tick he_Game_tick hk_Game_tick
  have B_Game_tick := F_Game_tick.binds (ps := ["self", "seconds"]) fun _ _ _ _ _ _ us hl => match us, hl with | [_, _], _ => rfl
  have F_Game_stop := fun_mk (st := st_Game_stop) hl_Game_stop he_Game_stop hk_Game_stop
  have B_Game_stop := F_Game_stop.binds (ps := ["self", "stop"]) fun _ _ _ _ _ _ us hl => match us, hl with | [_, _], _ => rfl
  have F_Game_whistle := fun_mk (st := st_Game_whistle) hl_Game_whistle he_Game_whistle hk_Game_whistle
  have B_Game_whistle := F_Game_whistle.binds (ps := ["self"]) fun _ _ _ _ _ _ us hl => match us, hl with | [_], _ => rfl
  have F_Game_settle := fun_mk (st := st_Game_settle) hl_Game_settle he_Game_settle hk_Game_settle
  have B_Game_settle := F_Game_settle.binds (ps := ["self"]) fun _ _ _ _ _ _ us hl => match us, hl with | [_], _ => rfl
  have F_Game_card := fun_mk (st := st_Game_card) hl_Game_card he_Game_card hk_Game_card
  have B_Game_card := F_Game_card.binds (ps := ["self", "team", "player", "colour"]) fun _ _ _ _ _ _ us hl => match us, hl with | [_, _, _, _], _ => rfl
  have F_Game_change := fun_mk (st := st_Game_change) hl_Game_change he_Game_change hk_Game_change
  have B_Game_change := F_Game_change.binds (ps := ["self", "team", "leaving", "coming"]) fun _ _ _ _ _ _ us hl => match us, hl with | [_, _, _, _], _ => rfl
  have F_Game_goal := fun_mk (st := st_Game_goal) hl_Game_goal he_Game_goal hk_Game_goal
  have B_Game_goal := F_Game_goal.binds (ps := ["self", "team", "player", "own"]) fun _ _ _ _ _ _ us hl => match us, hl with | [_, _, _, _], _ => rfl
  have F_Game_first := fun_mk (st := st_Game_first) hl_Game_first he_Game_first hk_Game_first
  have B_Game_first := F_Game_first.binds (ps := ["self", "team"]) fun _ _ _ _ _ _ us hl => match us, hl with | [_, _], _ => rfl
  have F_Game_shoot := fun_mk (st := st_Game_shoot) hl_Game_shoot he_Game_shoot hk_Game_shoot
  have B_Game_shoot := F_Game_shoot.binds (ps := ["self", "team", "player", "scored"]) fun _ _ _ _ _ _ us hl => match us, hl with | [_, _, _, _], _ => rfl
  have F_Game_shoot_refusal := fun_mk (st := st_Game_shoot_refusal) hl_Game_shoot_refusal he_Game_shoot_refusal hk_Game_shoot_refusal
  have B_Game_shoot_refusal := F_Game_shoot_refusal.binds (ps := ["self", "team", "player", "scored"]) fun _ _ _ _ _ _ us hl => match us, hl with | [_, _, _, _], _ => rfl
  have F_Game_score := fun_mk (st := st_Game_score) hl_Game_score he_Game_score hk_Game_score
  have B_Game_score := F_Game_score.binds (ps := ["self"]) fun _ _ _ _ _ _ us hl => match us, hl with | [_], _ => rfl
  have F_Game_on := fun_mk (st := st_Game_on) hl_Game_on he_Game_on hk_Game_on
  have B_Game_on := F_Game_on.binds (ps := ["self", "team"]) fun _ _ _ _ _ _ us hl => match us, hl with | [_, _], _ => rfl
  have F_Game_minute := fun_mk (st := st_Game_minute) hl_Game_minute he_Game_minute hk_Game_minute
  have B_Game_minute := F_Game_minute.binds (ps := ["self"]) fun _ _ _ _ _ _ us hl => match us, hl with | [_], _ => rfl
  have F_answers := fun_mk (st := st_answers) hl_answers he_answers hk_answers
  have B_answers := F_answers.binds (ps := ["calls"]) fun _ _ _ _ _ _ us hl => match us, hl with | [_], _ => rfl
  have F_numbers_of := fun_mk (st := st_numbers_of) hl_numbers_of he_numbers_of hk_numbers_of
  have B_numbers_of := F_numbers_of.binds (ps := ["game", "call", "handed"]) fun _ _ _ _ _ _ us hl => match us, hl with | [_, _, _], _ => rfl
  have F_answer_of := fun_mk (st := st_answer_of) hl_answer_of he_answer_of hk_answer_of
  have B_answer_of := F_answer_of.binds (ps := ["game", "call", "handed"]) fun _ _ _ _ _ _ us hl => match us, hl with | [_, _, _], _ => rfl
  refine ⟨{ c_Clock := c_Clock, c_Field := c_Field, c_Kicks := c_Kicks, c_Game := c_Game, g_HANDED := g_HANDED, f_lengths_allowed := f_lengths_allowed, d_lengths_allowed := _, f_minutes_rounded_up := f_minutes_rounded_up, d_minutes_rounded_up := _, f_Clock_init := f_Clock_init, d_Clock_init := _, f_Clock_all_played := f_Clock_all_played, d_Clock_all_played := _, f_Clock_length := f_Clock_length, d_Clock_length := _, f_Clock_kick := f_Clock_kick, d_Clock_kick := _, f_Clock_tick := f_Clock_tick, d_Clock_tick := _, f_Clock_whistle := f_Clock_whistle, d_Clock_whistle := _, f_Clock_minute := f_Clock_minute, d_Clock_minute := _, f_other := f_other, d_other := _, f_won_by := f_won_by, d_won_by := _, f_first_places := f_first_places, d_first_places := _, f_as_bits := f_as_bits, d_as_bits := _, f_Field_init := f_Field_init, d_Field_init := _, f_Field_set_play := f_Field_set_play, d_Field_set_play := _, f_Field_is_standing := f_Field_is_standing, d_Field_is_standing := _, f_Field_is_on := f_Field_is_on, d_Field_is_on := _, f_Field_players_on := f_Field_players_on, d_Field_players_on := _, f_Field_too_few := f_Field_too_few, d_Field_too_few := _, f_Field_on := f_Field_on, d_Field_on := _, f_Field_card := f_Field_card, d_Field_card := _, f_Field_change := f_Field_change, d_Field_change := _, f_Field_change_refusal := f_Field_change_refusal, d_Field_change_refusal := _, f_Field_needs_window := f_Field_needs_window, d_Field_needs_window := _, f_Field_take_window := f_Field_take_window, d_Field_take_window := _, f_Field_goal := f_Field_goal, d_Field_goal := _, f_Kicks_init := f_Kicks_init, d_Kicks_init := _, f_Kicks_all_taken := f_Kicks_all_taken, d_Kicks_all_taken := _, f_Kicks_round_is_done := f_Kicks_round_is_done, d_Kicks_round_is_done := _, f_Kicks_must_wait := f_Kicks_must_wait, d_Kicks_must_wait := _, f_Kicks_take := f_Kicks_take, d_Kicks_take := _, f_Kicks_decided_for := f_Kicks_decided_for, d_Kicks_decided_for := _, f_Kicks_left := f_Kicks_left, d_Kicks_left := _, f_Game_init := f_Game_init, d_Game_init := _, f_Game_kick := f_Game_kick, d_Game_kick := _, f_Game_tick := f_Game_tick, d_Game_tick := _, f_Game_stop := f_Game_stop, d_Game_stop := _, f_Game_whistle := f_Game_whistle, d_Game_whistle := _, f_Game_settle := f_Game_settle, d_Game_settle := _, f_Game_card := f_Game_card, d_Game_card := _, f_Game_change := f_Game_change, d_Game_change := _, f_Game_goal := f_Game_goal, d_Game_goal := _, f_Game_first := f_Game_first, d_Game_first := _, f_Game_shoot := f_Game_shoot, d_Game_shoot := _, f_Game_shoot_refusal := f_Game_shoot_refusal, d_Game_shoot_refusal := _, f_Game_score := f_Game_score, d_Game_score := _, f_Game_on := f_Game_on, d_Game_on := _, f_Game_minute := f_Game_minute, d_Game_minute := _, f_answers := f_answers, d_answers := _, f_numbers_of := f_numbers_of, d_numbers_of := _, f_answer_of := f_answer_of, d_answer_of := _ }, {
    g_WAS_SENT_OFF := ⟨_, PySem.W.mg_of X G hg_WAS_SENT_OFF, _, rfl⟩
    g_NO_PERIOD := ⟨_, PySem.W.mg_of X G hg_NO_PERIOD, _, rfl⟩
    g_NO_KICKS := ⟨_, PySem.W.mg_of X G hg_NO_KICKS, _, rfl⟩
    g_NOT_NOW := ⟨_, PySem.W.mg_of X G hg_NOT_NOW, _, rfl⟩
    g_HAS_KICKED := ⟨_, PySem.W.mg_of X G hg_HAS_KICKED, _, rfl⟩
    g_OUT_OF_RANGE := ⟨_, PySem.W.mg_of X G hg_OUT_OF_RANGE, _, rfl⟩
    g_USED_UP := ⟨_, PySem.W.mg_of X G hg_USED_UP, _, rfl⟩
    g_NO_WINDOW := ⟨_, PySem.W.mg_of X G hg_NO_WINDOW, _, rfl⟩
    g_TOO_EARLY := ⟨_, PySem.W.mg_of X G hg_TOO_EARLY, _, rfl⟩
    g_NOT_THEIR_TURN := ⟨_, PySem.W.mg_of X G hg_NOT_THEIR_TURN, _, rfl⟩
    g_MATCH_OVER := ⟨_, PySem.W.mg_of X G hg_MATCH_OVER, _, rfl⟩
    g_NOT_ON := ⟨_, PySem.W.mg_of X G hg_NOT_ON, _, rfl⟩
    g_NOT_ON_BENCH := ⟨_, PySem.W.mg_of X G hg_NOT_ON_BENCH, _, rfl⟩
    g_SHORTEST := ⟨_, PySem.W.mg_of X G hg_SHORTEST, _, rfl⟩
    g_LONGEST_HALF := ⟨_, PySem.W.mg_of X G hg_LONGEST_HALF, _, rfl⟩
    g_LONGEST_EXTRA := ⟨_, PySem.W.mg_of X G hg_LONGEST_EXTRA, _, rfl⟩
    g_LONGEST_TICK := ⟨_, PySem.W.mg_of X G hg_LONGEST_TICK, _, rfl⟩
    g_MOST_SECONDS := ⟨_, PySem.W.mg_of X G hg_MOST_SECONDS, _, rfl⟩
    g_MINUTE_clock := ⟨_, PySem.W.mg_of X G hg_MINUTE_clock, _, rfl⟩
    g_LAST_TEAM := ⟨_, PySem.W.mg_of X G hg_LAST_TEAM, _, rfl⟩
    g_NOBODY := ⟨_, PySem.W.mg_of X G hg_NOBODY, _, rfl⟩
    g_PLAYERS := ⟨_, PySem.W.mg_of X G hg_PLAYERS, _, rfl⟩
    g_STARTERS := ⟨_, PySem.W.mg_of X G hg_STARTERS, _, rfl⟩
    g_FEWEST_ON := ⟨_, PySem.W.mg_of X G hg_FEWEST_ON, _, rfl⟩
    g_ON_field := ⟨_, PySem.W.mg_of X G hg_ON_field, _, rfl⟩
    g_BENCH := ⟨_, PySem.W.mg_of X G hg_BENCH, _, rfl⟩
    g_OUT := ⟨_, PySem.W.mg_of X G hg_OUT, _, rfl⟩
    g_SENT_OFF := ⟨_, PySem.W.mg_of X G hg_SENT_OFF, _, rfl⟩
    g_YELLOW := ⟨_, PySem.W.mg_of X G hg_YELLOW, _, rfl⟩
    g_RED := ⟨_, PySem.W.mg_of X G hg_RED, _, rfl⟩
    g_GOES_ON := ⟨_, PySem.W.mg_of X G hg_GOES_ON, _, rfl⟩
    g_STANDS := ⟨_, PySem.W.mg_of X G hg_STANDS, _, rfl⟩
    g_RESTS := ⟨_, PySem.W.mg_of X G hg_RESTS, _, rfl⟩
    g_MOST_CHANGES := ⟨_, PySem.W.mg_of X G hg_MOST_CHANGES, _, rfl⟩
    g_MOST_WINDOWS := ⟨_, PySem.W.mg_of X G hg_MOST_WINDOWS, _, rfl⟩
    g_MOST_GOALS := ⟨_, PySem.W.mg_of X G hg_MOST_GOALS, _, rfl⟩
    g_KICKS_EACH := ⟨_, PySem.W.mg_of X G hg_KICKS_EACH, _, rfl⟩
    g_MOST_KICKS := ⟨_, PySem.W.mg_of X G hg_MOST_KICKS, _, rfl⟩
    g_START := ⟨_, PySem.W.mg_of X G hg_START, _, rfl⟩
    g_KICK := ⟨_, PySem.W.mg_of X G hg_KICK, _, rfl⟩
    g_TICK := ⟨_, PySem.W.mg_of X G hg_TICK, _, rfl⟩
    g_STOP := ⟨_, PySem.W.mg_of X G hg_STOP, _, rfl⟩
    g_WHISTLE := ⟨_, PySem.W.mg_of X G hg_WHISTLE, _, rfl⟩
    g_CARD := ⟨_, PySem.W.mg_of X G hg_CARD, _, rfl⟩
    g_CHANGE := ⟨_, PySem.W.mg_of X G hg_CHANGE, _, rfl⟩
    g_GOAL := ⟨_, PySem.W.mg_of X G hg_GOAL, _, rfl⟩
    g_FIRST := ⟨_, PySem.W.mg_of X G hg_FIRST, _, rfl⟩
    g_SCORE := ⟨_, PySem.W.mg_of X G hg_SCORE, _, rfl⟩
    g_ON_referee := ⟨_, PySem.W.mg_of X G hg_ON_referee, _, rfl⟩
    g_MINUTE_referee := ⟨_, PySem.W.mg_of X G hg_MINUTE_referee, _, rfl⟩
    g_WON := ⟨_, PySem.W.mg_of X G hg_WON, _, rfl⟩
    g_HANDED := ⟨_, PySem.W.mg_of X G hg_HANDED, rfl⟩
    s_HANDED := fun H => .inr ⟨_, _, _, hs_HANDED, rfl, rfl, (by show 14 ≤ sizeLine; decide), (.cons ⟨_, rfl⟩ (.cons ⟨_, rfl⟩ (.cons ⟨_, rfl⟩ (.cons ⟨_, rfl⟩ (.cons ⟨_, rfl⟩ (.cons ⟨_, rfl⟩ (.cons ⟨_, rfl⟩ (.cons ⟨_, rfl⟩ (.cons ⟨_, rfl⟩ (.cons ⟨_, rfl⟩ (.cons ⟨_, rfl⟩ (.cons ⟨_, rfl⟩ (.cons ⟨_, rfl⟩ (.cons ⟨_, rfl⟩ .nil))))))))))))))⟩
    no_all := PySem.W.mg_none_of X G hno_all
    no_len := PySem.W.mg_none_of X G hno_len
    no_max := PySem.W.mg_none_of X G hno_max
    no_min := PySem.W.mg_none_of X G hno_min
    no_range := PySem.W.mg_none_of X G hno_range
    no_sum := PySem.W.mg_none_of X G hno_sum
    cl_Clock := ⟨hpg_Clock, hhd_Clock, hpo_Clock, hsa_Clock⟩
    c_Clock := PySem.W.mg_of X G hc_Clock
    mk_Clock := ⟨hmk_Clock, ha_Clock_init, hi_Clock_init, hkc_Clock⟩
    n_Clock_lengths := hn_Clock_lengths
    n_Clock_played := hn_Clock_played
    n_Clock_running := hn_Clock_running
    n_Clock_gone := hn_Clock_gone
    n_Clock_stood := hn_Clock_stood
    cl_Field := ⟨hpg_Field, hhd_Field, hpo_Field, hsa_Field⟩
    c_Field := PySem.W.mg_of X G hc_Field
    mk_Field := ⟨hmk_Field, ha_Field_init, hi_Field_init, hkc_Field⟩
    n_Field_places := hn_Field_places
    n_Field_booked := hn_Field_booked
    n_Field_play := hn_Field_play
    n_Field_changes := hn_Field_changes
    n_Field_windows := hn_Field_windows
    n_Field_in_window := hn_Field_in_window
    n_Field_scored := hn_Field_scored
    cl_Kicks := ⟨hpg_Kicks, hhd_Kicks, hpo_Kicks, hsa_Kicks⟩
    c_Kicks := PySem.W.mg_of X G hc_Kicks
    mk_Kicks := ⟨hmk_Kicks, ha_Kicks_init, hi_Kicks_init, hkc_Kicks⟩
    n_Kicks_turn := hn_Kicks_turn
    n_Kicks_taken := hn_Kicks_taken
    n_Kicks_hits := hn_Kicks_hits
    n_Kicks_in_round := hn_Kicks_in_round
    cl_Game := ⟨hpg_Game, hhd_Game, hpo_Game, hsa_Game⟩
    c_Game := PySem.W.mg_of X G hc_Game
    mk_Game := ⟨hmk_Game, ha_Game_init, hi_Game_init, hkc_Game⟩
    n_Game_clock := hn_Game_clock
    n_Game_field := hn_Game_field
    n_Game_at_kicks := hn_Game_at_kicks
    n_Game_kicks := hn_Game_kicks
    n_Game_winner := hn_Game_winner
    F_lengths_allowed := F_lengths_allowed
    b_lengths_allowed := B_lengths_allowed
    m_lengths_allowed := PySem.W.mg_of X G ha_lengths_allowed
    F_minutes_rounded_up := F_minutes_rounded_up
    b_minutes_rounded_up := B_minutes_rounded_up
    m_minutes_rounded_up := PySem.W.mg_of X G ha_minutes_rounded_up
    F_Clock_init := F_Clock_init
    b_Clock_init := B_Clock_init
    F_Clock_all_played := F_Clock_all_played
    b_Clock_all_played := B_Clock_all_played
    m_Clock_all_played := ⟨ha_Clock_all_played, hi_Clock_all_played, hk_Clock_all_played⟩
    F_Clock_length := F_Clock_length
    b_Clock_length := B_Clock_length
    m_Clock_length := ⟨ha_Clock_length, hi_Clock_length, hk_Clock_length⟩
    F_Clock_kick := F_Clock_kick
    b_Clock_kick := B_Clock_kick
    m_Clock_kick := ⟨ha_Clock_kick, hi_Clock_kick, hk_Clock_kick⟩
    F_Clock_tick := F_Clock_tick
    b_Clock_tick := B_Clock_tick
    m_Clock_tick := ⟨ha_Clock_tick, hi_Clock_tick, hk_Clock_tick⟩
    F_Clock_whistle := F_Clock_whistle
    b_Clock_whistle := B_Clock_whistle
    m_Clock_whistle := ⟨ha_Clock_whistle, hi_Clock_whistle, hk_Clock_whistle⟩
    F_Clock_minute := F_Clock_minute
    b_Clock_minute := B_Clock_minute
    m_Clock_minute := ⟨ha_Clock_minute, hi_Clock_minute, hk_Clock_minute⟩
    F_other := F_other
    b_other := B_other
    m_other := PySem.W.mg_of X G ha_other
    F_won_by := F_won_by
    b_won_by := B_won_by
    m_won_by := PySem.W.mg_of X G ha_won_by
    F_first_places := F_first_places
    b_first_places := B_first_places
    m_first_places := PySem.W.mg_of X G ha_first_places
    F_as_bits := F_as_bits
    b_as_bits := B_as_bits
    m_as_bits := PySem.W.mg_of X G ha_as_bits
    F_Field_init := F_Field_init
    b_Field_init := B_Field_init
    F_Field_set_play := F_Field_set_play
    b_Field_set_play := B_Field_set_play
    m_Field_set_play := ⟨ha_Field_set_play, hi_Field_set_play, hk_Field_set_play⟩
    F_Field_is_standing := F_Field_is_standing
    b_Field_is_standing := B_Field_is_standing
    m_Field_is_standing := ⟨ha_Field_is_standing, hi_Field_is_standing, hk_Field_is_standing⟩
    F_Field_is_on := F_Field_is_on
    b_Field_is_on := B_Field_is_on
    m_Field_is_on := ⟨ha_Field_is_on, hi_Field_is_on, hk_Field_is_on⟩
    F_Field_players_on := F_Field_players_on
    b_Field_players_on := B_Field_players_on
    m_Field_players_on := ⟨ha_Field_players_on, hi_Field_players_on, hk_Field_players_on⟩
    F_Field_too_few := F_Field_too_few
    b_Field_too_few := B_Field_too_few
    m_Field_too_few := ⟨ha_Field_too_few, hi_Field_too_few, hk_Field_too_few⟩
    F_Field_on := F_Field_on
    b_Field_on := B_Field_on
    m_Field_on := ⟨ha_Field_on, hi_Field_on, hk_Field_on⟩
    F_Field_card := F_Field_card
    b_Field_card := B_Field_card
    m_Field_card := ⟨ha_Field_card, hi_Field_card, hk_Field_card⟩
    F_Field_change := F_Field_change
    b_Field_change := B_Field_change
    m_Field_change := ⟨ha_Field_change, hi_Field_change, hk_Field_change⟩
    F_Field_change_refusal := F_Field_change_refusal
    b_Field_change_refusal := B_Field_change_refusal
    m_Field_change_refusal := ⟨ha_Field_change_refusal, hi_Field_change_refusal, hk_Field_change_refusal⟩
    F_Field_needs_window := F_Field_needs_window
    b_Field_needs_window := B_Field_needs_window
    m_Field_needs_window := ⟨ha_Field_needs_window, hi_Field_needs_window, hk_Field_needs_window⟩
    F_Field_take_window := F_Field_take_window
    b_Field_take_window := B_Field_take_window
    m_Field_take_window := ⟨ha_Field_take_window, hi_Field_take_window, hk_Field_take_window⟩
    F_Field_goal := F_Field_goal
    b_Field_goal := B_Field_goal
    m_Field_goal := ⟨ha_Field_goal, hi_Field_goal, hk_Field_goal⟩
    F_Kicks_init := F_Kicks_init
    b_Kicks_init := B_Kicks_init
    F_Kicks_all_taken := F_Kicks_all_taken
    b_Kicks_all_taken := B_Kicks_all_taken
    m_Kicks_all_taken := ⟨ha_Kicks_all_taken, hi_Kicks_all_taken, hk_Kicks_all_taken⟩
    F_Kicks_round_is_done := F_Kicks_round_is_done
    b_Kicks_round_is_done := B_Kicks_round_is_done
    m_Kicks_round_is_done := ⟨ha_Kicks_round_is_done, hi_Kicks_round_is_done, hk_Kicks_round_is_done⟩
    F_Kicks_must_wait := F_Kicks_must_wait
    b_Kicks_must_wait := B_Kicks_must_wait
    m_Kicks_must_wait := ⟨ha_Kicks_must_wait, hi_Kicks_must_wait, hk_Kicks_must_wait⟩
    F_Kicks_take := F_Kicks_take
    b_Kicks_take := B_Kicks_take
    m_Kicks_take := ⟨ha_Kicks_take, hi_Kicks_take, hk_Kicks_take⟩
    F_Kicks_decided_for := F_Kicks_decided_for
    b_Kicks_decided_for := B_Kicks_decided_for
    m_Kicks_decided_for := ⟨ha_Kicks_decided_for, hi_Kicks_decided_for, hk_Kicks_decided_for⟩
    F_Kicks_left := F_Kicks_left
    b_Kicks_left := B_Kicks_left
    m_Kicks_left := ⟨ha_Kicks_left, hi_Kicks_left, hk_Kicks_left⟩
    F_Game_init := F_Game_init
    b_Game_init := B_Game_init
    F_Game_kick := F_Game_kick
    b_Game_kick := B_Game_kick
    m_Game_kick := ⟨ha_Game_kick, hi_Game_kick, hk_Game_kick⟩
    F_Game_tick := F_Game_tick
    b_Game_tick := B_Game_tick
    m_Game_tick := ⟨ha_Game_tick, hi_Game_tick, hk_Game_tick⟩
    F_Game_stop := F_Game_stop
    b_Game_stop := B_Game_stop
    m_Game_stop := ⟨ha_Game_stop, hi_Game_stop, hk_Game_stop⟩
    F_Game_whistle := F_Game_whistle
    b_Game_whistle := B_Game_whistle
    m_Game_whistle := ⟨ha_Game_whistle, hi_Game_whistle, hk_Game_whistle⟩
    F_Game_settle := F_Game_settle
    b_Game_settle := B_Game_settle
    m_Game_settle := ⟨ha_Game_settle, hi_Game_settle, hk_Game_settle⟩
    F_Game_card := F_Game_card
    b_Game_card := B_Game_card
    m_Game_card := ⟨ha_Game_card, hi_Game_card, hk_Game_card⟩
    F_Game_change := F_Game_change
    b_Game_change := B_Game_change
    m_Game_change := ⟨ha_Game_change, hi_Game_change, hk_Game_change⟩
    F_Game_goal := F_Game_goal
    b_Game_goal := B_Game_goal
    m_Game_goal := ⟨ha_Game_goal, hi_Game_goal, hk_Game_goal⟩
    F_Game_first := F_Game_first
    b_Game_first := B_Game_first
    m_Game_first := ⟨ha_Game_first, hi_Game_first, hk_Game_first⟩
    F_Game_shoot := F_Game_shoot
    b_Game_shoot := B_Game_shoot
    m_Game_shoot := ⟨ha_Game_shoot, hi_Game_shoot, hk_Game_shoot⟩
    F_Game_shoot_refusal := F_Game_shoot_refusal
    b_Game_shoot_refusal := B_Game_shoot_refusal
    m_Game_shoot_refusal := ⟨ha_Game_shoot_refusal, hi_Game_shoot_refusal, hk_Game_shoot_refusal⟩
    F_Game_score := F_Game_score
    b_Game_score := B_Game_score
    m_Game_score := ⟨ha_Game_score, hi_Game_score, hk_Game_score⟩
    F_Game_on := F_Game_on
    b_Game_on := B_Game_on
    m_Game_on := ⟨ha_Game_on, hi_Game_on, hk_Game_on⟩
    F_Game_minute := F_Game_minute
    b_Game_minute := B_Game_minute
    m_Game_minute := ⟨ha_Game_minute, hi_Game_minute, hk_Game_minute⟩
    F_answers := F_answers
    b_answers := B_answers
    m_answers := PySem.W.mg_of X G ha_answers
    F_numbers_of := F_numbers_of
    b_numbers_of := B_numbers_of
    m_numbers_of := PySem.W.mg_of X G ha_numbers_of
    F_answer_of := F_answer_of
    b_answer_of := B_answer_of
    m_answer_of := PySem.W.mg_of X G ha_answer_of }, fun s u => .of_eq rfl⟩
end MK

/-! The world: made by gen_world.py. -/
namespace MK
open PySem PySem.Spec PyProof.Rows L2
/-- the values of the objects -/
structure M where
  lens : List Int
  played : Int
  running : Bool
  gone : Int
  stood : Int
  pl0 : List Int
  pl1 : List Int
  bk0 : List Bool
  bk1 : List Bool
  play : Int
  ch0 : Int
  ch1 : Int
  wi0 : Int
  wi1 : Int
  iw0 : Bool
  iw1 : Bool
  sc0 : Int
  sc1 : Int
  at_kicks : Bool
  winner : Int
/-- where they lie: objects and lists, and the objects' dicts -/
structure Wd where
  A : Nat → Addr
  d : Nat → Addr
  kv : V
def cells (a : Ad) (w : Wd) (m : M) : List HO := [
  .ins a.c_Game (w.d 0) [("clock", .ref (w.A 1)), ("field", .ref (w.A 2)), ("at_kicks", .bl m.at_kicks), ("kicks", w.kv), ("winner", .int m.winner)],
  .ins a.c_Clock (w.d 1) [("lengths", .ref (w.A 13)), ("played", .int m.played), ("running", .bl m.running), ("gone", .int m.gone), ("stood", .int m.stood)],
  .ins a.c_Field (w.d 2) [("places", .ref (w.A 3)), ("booked", .ref (w.A 6)), ("play", .int m.play), ("changes", .ref (w.A 9)), ("windows", .ref (w.A 10)), ("in_window", .ref (w.A 11)), ("scored", .ref (w.A 12))],
  .lst [.ref (w.A 4), .ref (w.A 5)],
  .lst (m.pl0.map V.int),
  .lst (m.pl1.map V.int),
  .lst [.ref (w.A 7), .ref (w.A 8)],
  .lst (m.bk0.map V.bl),
  .lst (m.bk1.map V.bl),
  .lst [.int m.ch0, .int m.ch1],
  .lst [.int m.wi0, .int m.wi1],
  .lst [.bl m.iw0, .bl m.iw1],
  .lst [.int m.sc0, .int m.sc1],
  .lst (m.lens.map V.int)]
def put (a : Ad) (w : Wd) (m : M) (H : Hp) : Hp := lay w.A (cells a w m) 0 H
abbrev NC : Nat := 14
section
variable {K : PySem.W.Frag} {mg : Str → Option Value} {a : Ad} {w : Wd} {m : M} {H : Hp} {Q : VK} {QH : Hp → Prop} {P : Prop}
theorem at_0 (g : Good NC w.A) : put a w m H (w.A 0) = some (.ins a.c_Game (w.d 0) [("clock", .ref (w.A 1)), ("field", .ref (w.A 2)), ("at_kicks", .bl m.at_kicks), ("kicks", w.kv), ("winner", .int m.winner)]) := lay_at g rfl rfl
theorem rd_Game_clock (T : Txt K mg a) (g : Good NC w.A) : gFld K "clock" (.ref (w.A 0)) (put a w m H) Q = Q (.ref (w.A 1)) (put a w m H) := g_fld (at_0 g) T.cl_Game T.n_Game_clock lk_hit
theorem rd_Game_field (T : Txt K mg a) (g : Good NC w.A) : gFld K "field" (.ref (w.A 0)) (put a w m H) Q = Q (.ref (w.A 2)) (put a w m H) := g_fld (at_0 g) T.cl_Game T.n_Game_field ((lk_miss (by decide +kernel)).trans lk_hit)
theorem rd_Game_at_kicks (T : Txt K mg a) (g : Good NC w.A) : gFld K "at_kicks" (.ref (w.A 0)) (put a w m H) Q = Q (.bl m.at_kicks) (put a w m H) := g_fld (at_0 g) T.cl_Game T.n_Game_at_kicks ((lk_miss (by decide +kernel)).trans ((lk_miss (by decide +kernel)).trans lk_hit))
theorem pf_Game_at_kicks {z : Bool} : putF "at_kicks" (.bl z) ([("clock", .ref (w.A 1)), ("field", .ref (w.A 2)), ("at_kicks", .bl m.at_kicks), ("kicks", w.kv), ("winner", .int m.winner)] : List (Str × V)) = ([("clock", .ref (w.A 1)), ("field", .ref (w.A 2)), ("at_kicks", .bl z), ("kicks", w.kv), ("winner", .int m.winner)] : List (Str × V)) := by rw [pf_miss (by decide +kernel), pf_miss (by decide +kernel), pf_hit]
theorem wr_Game_at_kicks {z : Bool} (T : Txt K mg a) (g : Good NC w.A) : gPut K "at_kicks" (.ref (w.A 0)) (.bl z) (put a w m H) QH = QH (put a w { m with at_kicks := z } H) := by
  rw [g_put (at_0 g) T.cl_Game T.n_Game_at_kicks (by simp), pf_Game_at_kicks]
  exact congrArg QH (lay_set g rfl (by decide))
theorem au_Game_at_kicks {rd : V → V → Hp → VK → Prop} {tv : TE} {σ : L2.St} (T : Txt K mg a) (g : Good NC w.A) : gAug K "at_kicks" tv rd σ (.ref (w.A 0)) (put a w m H) QH = tv σ (put a w m H) fun y H2 => rd (.bl m.at_kicks) y H2 fun z H3 => gPutC a.c_Game "at_kicks" (w.A 0) z H3 QH := g_aug (at_0 g) T.cl_Game T.n_Game_at_kicks ((lk_miss (by decide +kernel)).trans ((lk_miss (by decide +kernel)).trans lk_hit))
theorem wa_Game_at_kicks {z : Bool} (g : Good NC w.A) : gPutC a.c_Game "at_kicks" (w.A 0) (.bl z) (put a w m H) QH = QH (put a w { m with at_kicks := z } H) := by
  rw [g_putC (at_0 g) (by simp), pf_Game_at_kicks]
  exact congrArg QH (lay_set g rfl (by decide))
theorem rd_Game_kicks (T : Txt K mg a) (g : Good NC w.A) : gFld K "kicks" (.ref (w.A 0)) (put a w m H) Q = Q (w.kv) (put a w m H) := g_fld (at_0 g) T.cl_Game T.n_Game_kicks ((lk_miss (by decide +kernel)).trans ((lk_miss (by decide +kernel)).trans ((lk_miss (by decide +kernel)).trans lk_hit)))
theorem pf_Game_kicks {z : V} : putF "kicks" z ([("clock", .ref (w.A 1)), ("field", .ref (w.A 2)), ("at_kicks", .bl m.at_kicks), ("kicks", w.kv), ("winner", .int m.winner)] : List (Str × V)) = ([("clock", .ref (w.A 1)), ("field", .ref (w.A 2)), ("at_kicks", .bl m.at_kicks), ("kicks", z), ("winner", .int m.winner)] : List (Str × V)) := by rw [pf_miss (by decide +kernel), pf_miss (by decide +kernel), pf_miss (by decide +kernel), pf_hit]
theorem wr_Game_kicks {z : V} (T : Txt K mg a) (g : Good NC w.A) : gPut K "kicks" (.ref (w.A 0)) z (put a w m H) QH = QH (put a { w with kv := z } m H) := by
  rw [g_put (at_0 g) T.cl_Game T.n_Game_kicks (by simp), pf_Game_kicks]
  exact congrArg QH (lay_set g rfl (by decide))
theorem rd_Game_winner (T : Txt K mg a) (g : Good NC w.A) : gFld K "winner" (.ref (w.A 0)) (put a w m H) Q = Q (.int m.winner) (put a w m H) := g_fld (at_0 g) T.cl_Game T.n_Game_winner ((lk_miss (by decide +kernel)).trans ((lk_miss (by decide +kernel)).trans ((lk_miss (by decide +kernel)).trans ((lk_miss (by decide +kernel)).trans lk_hit))))
theorem pf_Game_winner {z : Int} : putF "winner" (.int z) ([("clock", .ref (w.A 1)), ("field", .ref (w.A 2)), ("at_kicks", .bl m.at_kicks), ("kicks", w.kv), ("winner", .int m.winner)] : List (Str × V)) = ([("clock", .ref (w.A 1)), ("field", .ref (w.A 2)), ("at_kicks", .bl m.at_kicks), ("kicks", w.kv), ("winner", .int z)] : List (Str × V)) := by rw [pf_miss (by decide +kernel), pf_miss (by decide +kernel), pf_miss (by decide +kernel), pf_miss (by decide +kernel), pf_hit]
theorem wr_Game_winner {z : Int} (T : Txt K mg a) (g : Good NC w.A) : gPut K "winner" (.ref (w.A 0)) (.int z) (put a w m H) QH = QH (put a w { m with winner := z } H) := by
  rw [g_put (at_0 g) T.cl_Game T.n_Game_winner (by simp), pf_Game_winner]
  exact congrArg QH (lay_set g rfl (by decide))
theorem au_Game_winner {rd : V → V → Hp → VK → Prop} {tv : TE} {σ : L2.St} (T : Txt K mg a) (g : Good NC w.A) : gAug K "winner" tv rd σ (.ref (w.A 0)) (put a w m H) QH = tv σ (put a w m H) fun y H2 => rd (.int m.winner) y H2 fun z H3 => gPutC a.c_Game "winner" (w.A 0) z H3 QH := g_aug (at_0 g) T.cl_Game T.n_Game_winner ((lk_miss (by decide +kernel)).trans ((lk_miss (by decide +kernel)).trans ((lk_miss (by decide +kernel)).trans ((lk_miss (by decide +kernel)).trans lk_hit))))
theorem wa_Game_winner {z : Int} (g : Good NC w.A) : gPutC a.c_Game "winner" (w.A 0) (.int z) (put a w m H) QH = QH (put a w { m with winner := z } H) := by
  rw [g_putC (at_0 g) (by simp), pf_Game_winner]
  exact congrArg QH (lay_set g rfl (by decide))
theorem pn_Game_clock {v0 : V} : putF "clock" v0 ([] : List (Str × V)) = ([("clock", v0)] : List (Str × V)) := by rw [pf_nil]
theorem pn_Game_field {v0 v1 : V} : putF "field" v1 ([("clock", v0)] : List (Str × V)) = ([("clock", v0), ("field", v1)] : List (Str × V)) := by rw [pf_miss (by decide +kernel), pf_nil]
theorem pn_Game_at_kicks {v0 v1 v2 : V} : putF "at_kicks" v2 ([("clock", v0), ("field", v1)] : List (Str × V)) = ([("clock", v0), ("field", v1), ("at_kicks", v2)] : List (Str × V)) := by rw [pf_miss (by decide +kernel), pf_miss (by decide +kernel), pf_nil]
theorem pn_Game_kicks {v0 v1 v2 v3 : V} : putF "kicks" v3 ([("clock", v0), ("field", v1), ("at_kicks", v2)] : List (Str × V)) = ([("clock", v0), ("field", v1), ("at_kicks", v2), ("kicks", v3)] : List (Str × V)) := by rw [pf_miss (by decide +kernel), pf_miss (by decide +kernel), pf_miss (by decide +kernel), pf_nil]
theorem pn_Game_winner {v0 v1 v2 v3 v4 : V} : putF "winner" v4 ([("clock", v0), ("field", v1), ("at_kicks", v2), ("kicks", v3)] : List (Str × V)) = ([("clock", v0), ("field", v1), ("at_kicks", v2), ("kicks", v3), ("winner", v4)] : List (Str × V)) := by rw [pf_miss (by decide +kernel), pf_miss (by decide +kernel), pf_miss (by decide +kernel), pf_miss (by decide +kernel), pf_nil]
theorem me_Game_kick (g : Good NC w.A) : gMeth a.c_Game "kick" (.ref (w.A 0)) (put a w m H) P = P := g_meth (at_0 g) ((lk_miss (by decide +kernel)).trans ((lk_miss (by decide +kernel)).trans ((lk_miss (by decide +kernel)).trans ((lk_miss (by decide +kernel)).trans ((lk_miss (by decide +kernel)).trans lk_nil)))))
theorem me_Game_tick (g : Good NC w.A) : gMeth a.c_Game "tick" (.ref (w.A 0)) (put a w m H) P = P := g_meth (at_0 g) ((lk_miss (by decide +kernel)).trans ((lk_miss (by decide +kernel)).trans ((lk_miss (by decide +kernel)).trans ((lk_miss (by decide +kernel)).trans ((lk_miss (by decide +kernel)).trans lk_nil)))))
theorem me_Game_stop (g : Good NC w.A) : gMeth a.c_Game "stop" (.ref (w.A 0)) (put a w m H) P = P := g_meth (at_0 g) ((lk_miss (by decide +kernel)).trans ((lk_miss (by decide +kernel)).trans ((lk_miss (by decide +kernel)).trans ((lk_miss (by decide +kernel)).trans ((lk_miss (by decide +kernel)).trans lk_nil)))))
theorem me_Game_whistle (g : Good NC w.A) : gMeth a.c_Game "whistle" (.ref (w.A 0)) (put a w m H) P = P := g_meth (at_0 g) ((lk_miss (by decide +kernel)).trans ((lk_miss (by decide +kernel)).trans ((lk_miss (by decide +kernel)).trans ((lk_miss (by decide +kernel)).trans ((lk_miss (by decide +kernel)).trans lk_nil)))))
theorem me_Game_settle (g : Good NC w.A) : gMeth a.c_Game "settle" (.ref (w.A 0)) (put a w m H) P = P := g_meth (at_0 g) ((lk_miss (by decide +kernel)).trans ((lk_miss (by decide +kernel)).trans ((lk_miss (by decide +kernel)).trans ((lk_miss (by decide +kernel)).trans ((lk_miss (by decide +kernel)).trans lk_nil)))))
theorem me_Game_card (g : Good NC w.A) : gMeth a.c_Game "card" (.ref (w.A 0)) (put a w m H) P = P := g_meth (at_0 g) ((lk_miss (by decide +kernel)).trans ((lk_miss (by decide +kernel)).trans ((lk_miss (by decide +kernel)).trans ((lk_miss (by decide +kernel)).trans ((lk_miss (by decide +kernel)).trans lk_nil)))))
theorem me_Game_change (g : Good NC w.A) : gMeth a.c_Game "change" (.ref (w.A 0)) (put a w m H) P = P := g_meth (at_0 g) ((lk_miss (by decide +kernel)).trans ((lk_miss (by decide +kernel)).trans ((lk_miss (by decide +kernel)).trans ((lk_miss (by decide +kernel)).trans ((lk_miss (by decide +kernel)).trans lk_nil)))))
theorem me_Game_goal (g : Good NC w.A) : gMeth a.c_Game "goal" (.ref (w.A 0)) (put a w m H) P = P := g_meth (at_0 g) ((lk_miss (by decide +kernel)).trans ((lk_miss (by decide +kernel)).trans ((lk_miss (by decide +kernel)).trans ((lk_miss (by decide +kernel)).trans ((lk_miss (by decide +kernel)).trans lk_nil)))))
theorem me_Game_first (g : Good NC w.A) : gMeth a.c_Game "first" (.ref (w.A 0)) (put a w m H) P = P := g_meth (at_0 g) ((lk_miss (by decide +kernel)).trans ((lk_miss (by decide +kernel)).trans ((lk_miss (by decide +kernel)).trans ((lk_miss (by decide +kernel)).trans ((lk_miss (by decide +kernel)).trans lk_nil)))))
theorem me_Game_shoot (g : Good NC w.A) : gMeth a.c_Game "shoot" (.ref (w.A 0)) (put a w m H) P = P := g_meth (at_0 g) ((lk_miss (by decide +kernel)).trans ((lk_miss (by decide +kernel)).trans ((lk_miss (by decide +kernel)).trans ((lk_miss (by decide +kernel)).trans ((lk_miss (by decide +kernel)).trans lk_nil)))))
theorem me_Game_shoot_refusal (g : Good NC w.A) : gMeth a.c_Game "shoot_refusal" (.ref (w.A 0)) (put a w m H) P = P := g_meth (at_0 g) ((lk_miss (by decide +kernel)).trans ((lk_miss (by decide +kernel)).trans ((lk_miss (by decide +kernel)).trans ((lk_miss (by decide +kernel)).trans ((lk_miss (by decide +kernel)).trans lk_nil)))))
theorem me_Game_score (g : Good NC w.A) : gMeth a.c_Game "score" (.ref (w.A 0)) (put a w m H) P = P := g_meth (at_0 g) ((lk_miss (by decide +kernel)).trans ((lk_miss (by decide +kernel)).trans ((lk_miss (by decide +kernel)).trans ((lk_miss (by decide +kernel)).trans ((lk_miss (by decide +kernel)).trans lk_nil)))))
theorem me_Game_on (g : Good NC w.A) : gMeth a.c_Game "on" (.ref (w.A 0)) (put a w m H) P = P := g_meth (at_0 g) ((lk_miss (by decide +kernel)).trans ((lk_miss (by decide +kernel)).trans ((lk_miss (by decide +kernel)).trans ((lk_miss (by decide +kernel)).trans ((lk_miss (by decide +kernel)).trans lk_nil)))))
theorem me_Game_minute (g : Good NC w.A) : gMeth a.c_Game "minute" (.ref (w.A 0)) (put a w m H) P = P := g_meth (at_0 g) ((lk_miss (by decide +kernel)).trans ((lk_miss (by decide +kernel)).trans ((lk_miss (by decide +kernel)).trans ((lk_miss (by decide +kernel)).trans ((lk_miss (by decide +kernel)).trans lk_nil)))))
theorem at_1 (g : Good NC w.A) : put a w m H (w.A 1) = some (.ins a.c_Clock (w.d 1) [("lengths", .ref (w.A 13)), ("played", .int m.played), ("running", .bl m.running), ("gone", .int m.gone), ("stood", .int m.stood)]) := lay_at g rfl rfl
theorem rd_Clock_lengths (T : Txt K mg a) (g : Good NC w.A) : gFld K "lengths" (.ref (w.A 1)) (put a w m H) Q = Q (.ref (w.A 13)) (put a w m H) := g_fld (at_1 g) T.cl_Clock T.n_Clock_lengths lk_hit
theorem rd_Clock_played (T : Txt K mg a) (g : Good NC w.A) : gFld K "played" (.ref (w.A 1)) (put a w m H) Q = Q (.int m.played) (put a w m H) := g_fld (at_1 g) T.cl_Clock T.n_Clock_played ((lk_miss (by decide +kernel)).trans lk_hit)
theorem pf_Clock_played {z : Int} : putF "played" (.int z) ([("lengths", .ref (w.A 13)), ("played", .int m.played), ("running", .bl m.running), ("gone", .int m.gone), ("stood", .int m.stood)] : List (Str × V)) = ([("lengths", .ref (w.A 13)), ("played", .int z), ("running", .bl m.running), ("gone", .int m.gone), ("stood", .int m.stood)] : List (Str × V)) := by rw [pf_miss (by decide +kernel), pf_hit]
theorem wr_Clock_played {z : Int} (T : Txt K mg a) (g : Good NC w.A) : gPut K "played" (.ref (w.A 1)) (.int z) (put a w m H) QH = QH (put a w { m with played := z } H) := by
  rw [g_put (at_1 g) T.cl_Clock T.n_Clock_played (by simp), pf_Clock_played]
  exact congrArg QH (lay_set g rfl (by decide))
theorem au_Clock_played {rd : V → V → Hp → VK → Prop} {tv : TE} {σ : L2.St} (T : Txt K mg a) (g : Good NC w.A) : gAug K "played" tv rd σ (.ref (w.A 1)) (put a w m H) QH = tv σ (put a w m H) fun y H2 => rd (.int m.played) y H2 fun z H3 => gPutC a.c_Clock "played" (w.A 1) z H3 QH := g_aug (at_1 g) T.cl_Clock T.n_Clock_played ((lk_miss (by decide +kernel)).trans lk_hit)
theorem wa_Clock_played {z : Int} (g : Good NC w.A) : gPutC a.c_Clock "played" (w.A 1) (.int z) (put a w m H) QH = QH (put a w { m with played := z } H) := by
  rw [g_putC (at_1 g) (by simp), pf_Clock_played]
  exact congrArg QH (lay_set g rfl (by decide))
theorem rd_Clock_running (T : Txt K mg a) (g : Good NC w.A) : gFld K "running" (.ref (w.A 1)) (put a w m H) Q = Q (.bl m.running) (put a w m H) := g_fld (at_1 g) T.cl_Clock T.n_Clock_running ((lk_miss (by decide +kernel)).trans ((lk_miss (by decide +kernel)).trans lk_hit))
theorem pf_Clock_running {z : Bool} : putF "running" (.bl z) ([("lengths", .ref (w.A 13)), ("played", .int m.played), ("running", .bl m.running), ("gone", .int m.gone), ("stood", .int m.stood)] : List (Str × V)) = ([("lengths", .ref (w.A 13)), ("played", .int m.played), ("running", .bl z), ("gone", .int m.gone), ("stood", .int m.stood)] : List (Str × V)) := by rw [pf_miss (by decide +kernel), pf_miss (by decide +kernel), pf_hit]
theorem wr_Clock_running {z : Bool} (T : Txt K mg a) (g : Good NC w.A) : gPut K "running" (.ref (w.A 1)) (.bl z) (put a w m H) QH = QH (put a w { m with running := z } H) := by
  rw [g_put (at_1 g) T.cl_Clock T.n_Clock_running (by simp), pf_Clock_running]
  exact congrArg QH (lay_set g rfl (by decide))
theorem au_Clock_running {rd : V → V → Hp → VK → Prop} {tv : TE} {σ : L2.St} (T : Txt K mg a) (g : Good NC w.A) : gAug K "running" tv rd σ (.ref (w.A 1)) (put a w m H) QH = tv σ (put a w m H) fun y H2 => rd (.bl m.running) y H2 fun z H3 => gPutC a.c_Clock "running" (w.A 1) z H3 QH := g_aug (at_1 g) T.cl_Clock T.n_Clock_running ((lk_miss (by decide +kernel)).trans ((lk_miss (by decide +kernel)).trans lk_hit))
theorem wa_Clock_running {z : Bool} (g : Good NC w.A) : gPutC a.c_Clock "running" (w.A 1) (.bl z) (put a w m H) QH = QH (put a w { m with running := z } H) := by
  rw [g_putC (at_1 g) (by simp), pf_Clock_running]
  exact congrArg QH (lay_set g rfl (by decide))
theorem rd_Clock_gone (T : Txt K mg a) (g : Good NC w.A) : gFld K "gone" (.ref (w.A 1)) (put a w m H) Q = Q (.int m.gone) (put a w m H) := g_fld (at_1 g) T.cl_Clock T.n_Clock_gone ((lk_miss (by decide +kernel)).trans ((lk_miss (by decide +kernel)).trans ((lk_miss (by decide +kernel)).trans lk_hit)))
theorem pf_Clock_gone {z : Int} : putF "gone" (.int z) ([("lengths", .ref (w.A 13)), ("played", .int m.played), ("running", .bl m.running), ("gone", .int m.gone), ("stood", .int m.stood)] : List (Str × V)) = ([("lengths", .ref (w.A 13)), ("played", .int m.played), ("running", .bl m.running), ("gone", .int z), ("stood", .int m.stood)] : List (Str × V)) := by rw [pf_miss (by decide +kernel), pf_miss (by decide +kernel), pf_miss (by decide +kernel), pf_hit]
theorem wr_Clock_gone {z : Int} (T : Txt K mg a) (g : Good NC w.A) : gPut K "gone" (.ref (w.A 1)) (.int z) (put a w m H) QH = QH (put a w { m with gone := z } H) := by
  rw [g_put (at_1 g) T.cl_Clock T.n_Clock_gone (by simp), pf_Clock_gone]
  exact congrArg QH (lay_set g rfl (by decide))
theorem au_Clock_gone {rd : V → V → Hp → VK → Prop} {tv : TE} {σ : L2.St} (T : Txt K mg a) (g : Good NC w.A) : gAug K "gone" tv rd σ (.ref (w.A 1)) (put a w m H) QH = tv σ (put a w m H) fun y H2 => rd (.int m.gone) y H2 fun z H3 => gPutC a.c_Clock "gone" (w.A 1) z H3 QH := g_aug (at_1 g) T.cl_Clock T.n_Clock_gone ((lk_miss (by decide +kernel)).trans ((lk_miss (by decide +kernel)).trans ((lk_miss (by decide +kernel)).trans lk_hit)))
theorem wa_Clock_gone {z : Int} (g : Good NC w.A) : gPutC a.c_Clock "gone" (w.A 1) (.int z) (put a w m H) QH = QH (put a w { m with gone := z } H) := by
  rw [g_putC (at_1 g) (by simp), pf_Clock_gone]
  exact congrArg QH (lay_set g rfl (by decide))
theorem rd_Clock_stood (T : Txt K mg a) (g : Good NC w.A) : gFld K "stood" (.ref (w.A 1)) (put a w m H) Q = Q (.int m.stood) (put a w m H) := g_fld (at_1 g) T.cl_Clock T.n_Clock_stood ((lk_miss (by decide +kernel)).trans ((lk_miss (by decide +kernel)).trans ((lk_miss (by decide +kernel)).trans ((lk_miss (by decide +kernel)).trans lk_hit))))
theorem pf_Clock_stood {z : Int} : putF "stood" (.int z) ([("lengths", .ref (w.A 13)), ("played", .int m.played), ("running", .bl m.running), ("gone", .int m.gone), ("stood", .int m.stood)] : List (Str × V)) = ([("lengths", .ref (w.A 13)), ("played", .int m.played), ("running", .bl m.running), ("gone", .int m.gone), ("stood", .int z)] : List (Str × V)) := by rw [pf_miss (by decide +kernel), pf_miss (by decide +kernel), pf_miss (by decide +kernel), pf_miss (by decide +kernel), pf_hit]
theorem wr_Clock_stood {z : Int} (T : Txt K mg a) (g : Good NC w.A) : gPut K "stood" (.ref (w.A 1)) (.int z) (put a w m H) QH = QH (put a w { m with stood := z } H) := by
  rw [g_put (at_1 g) T.cl_Clock T.n_Clock_stood (by simp), pf_Clock_stood]
  exact congrArg QH (lay_set g rfl (by decide))
theorem au_Clock_stood {rd : V → V → Hp → VK → Prop} {tv : TE} {σ : L2.St} (T : Txt K mg a) (g : Good NC w.A) : gAug K "stood" tv rd σ (.ref (w.A 1)) (put a w m H) QH = tv σ (put a w m H) fun y H2 => rd (.int m.stood) y H2 fun z H3 => gPutC a.c_Clock "stood" (w.A 1) z H3 QH := g_aug (at_1 g) T.cl_Clock T.n_Clock_stood ((lk_miss (by decide +kernel)).trans ((lk_miss (by decide +kernel)).trans ((lk_miss (by decide +kernel)).trans ((lk_miss (by decide +kernel)).trans lk_hit))))
theorem wa_Clock_stood {z : Int} (g : Good NC w.A) : gPutC a.c_Clock "stood" (w.A 1) (.int z) (put a w m H) QH = QH (put a w { m with stood := z } H) := by
  rw [g_putC (at_1 g) (by simp), pf_Clock_stood]
  exact congrArg QH (lay_set g rfl (by decide))
theorem pn_Clock_lengths {v0 : V} : putF "lengths" v0 ([] : List (Str × V)) = ([("lengths", v0)] : List (Str × V)) := by rw [pf_nil]
theorem pn_Clock_played {v0 v1 : V} : putF "played" v1 ([("lengths", v0)] : List (Str × V)) = ([("lengths", v0), ("played", v1)] : List (Str × V)) := by rw [pf_miss (by decide +kernel), pf_nil]
theorem pn_Clock_running {v0 v1 v2 : V} : putF "running" v2 ([("lengths", v0), ("played", v1)] : List (Str × V)) = ([("lengths", v0), ("played", v1), ("running", v2)] : List (Str × V)) := by rw [pf_miss (by decide +kernel), pf_miss (by decide +kernel), pf_nil]
theorem pn_Clock_gone {v0 v1 v2 v3 : V} : putF "gone" v3 ([("lengths", v0), ("played", v1), ("running", v2)] : List (Str × V)) = ([("lengths", v0), ("played", v1), ("running", v2), ("gone", v3)] : List (Str × V)) := by rw [pf_miss (by decide +kernel), pf_miss (by decide +kernel), pf_miss (by decide +kernel), pf_nil]
theorem pn_Clock_stood {v0 v1 v2 v3 v4 : V} : putF "stood" v4 ([("lengths", v0), ("played", v1), ("running", v2), ("gone", v3)] : List (Str × V)) = ([("lengths", v0), ("played", v1), ("running", v2), ("gone", v3), ("stood", v4)] : List (Str × V)) := by rw [pf_miss (by decide +kernel), pf_miss (by decide +kernel), pf_miss (by decide +kernel), pf_miss (by decide +kernel), pf_nil]
theorem me_Clock_all_played (g : Good NC w.A) : gMeth a.c_Clock "all_played" (.ref (w.A 1)) (put a w m H) P = P := g_meth (at_1 g) ((lk_miss (by decide +kernel)).trans ((lk_miss (by decide +kernel)).trans ((lk_miss (by decide +kernel)).trans ((lk_miss (by decide +kernel)).trans ((lk_miss (by decide +kernel)).trans lk_nil)))))
theorem me_Clock_length (g : Good NC w.A) : gMeth a.c_Clock "length" (.ref (w.A 1)) (put a w m H) P = P := g_meth (at_1 g) ((lk_miss (by decide +kernel)).trans ((lk_miss (by decide +kernel)).trans ((lk_miss (by decide +kernel)).trans ((lk_miss (by decide +kernel)).trans ((lk_miss (by decide +kernel)).trans lk_nil)))))
theorem me_Clock_kick (g : Good NC w.A) : gMeth a.c_Clock "kick" (.ref (w.A 1)) (put a w m H) P = P := g_meth (at_1 g) ((lk_miss (by decide +kernel)).trans ((lk_miss (by decide +kernel)).trans ((lk_miss (by decide +kernel)).trans ((lk_miss (by decide +kernel)).trans ((lk_miss (by decide +kernel)).trans lk_nil)))))
theorem me_Clock_tick (g : Good NC w.A) : gMeth a.c_Clock "tick" (.ref (w.A 1)) (put a w m H) P = P := g_meth (at_1 g) ((lk_miss (by decide +kernel)).trans ((lk_miss (by decide +kernel)).trans ((lk_miss (by decide +kernel)).trans ((lk_miss (by decide +kernel)).trans ((lk_miss (by decide +kernel)).trans lk_nil)))))
theorem me_Clock_whistle (g : Good NC w.A) : gMeth a.c_Clock "whistle" (.ref (w.A 1)) (put a w m H) P = P := g_meth (at_1 g) ((lk_miss (by decide +kernel)).trans ((lk_miss (by decide +kernel)).trans ((lk_miss (by decide +kernel)).trans ((lk_miss (by decide +kernel)).trans ((lk_miss (by decide +kernel)).trans lk_nil)))))
theorem me_Clock_minute (g : Good NC w.A) : gMeth a.c_Clock "minute" (.ref (w.A 1)) (put a w m H) P = P := g_meth (at_1 g) ((lk_miss (by decide +kernel)).trans ((lk_miss (by decide +kernel)).trans ((lk_miss (by decide +kernel)).trans ((lk_miss (by decide +kernel)).trans ((lk_miss (by decide +kernel)).trans lk_nil)))))
theorem at_2 (g : Good NC w.A) : put a w m H (w.A 2) = some (.ins a.c_Field (w.d 2) [("places", .ref (w.A 3)), ("booked", .ref (w.A 6)), ("play", .int m.play), ("changes", .ref (w.A 9)), ("windows", .ref (w.A 10)), ("in_window", .ref (w.A 11)), ("scored", .ref (w.A 12))]) := lay_at g rfl rfl
theorem rd_Field_places (T : Txt K mg a) (g : Good NC w.A) : gFld K "places" (.ref (w.A 2)) (put a w m H) Q = Q (.ref (w.A 3)) (put a w m H) := g_fld (at_2 g) T.cl_Field T.n_Field_places lk_hit
theorem rd_Field_booked (T : Txt K mg a) (g : Good NC w.A) : gFld K "booked" (.ref (w.A 2)) (put a w m H) Q = Q (.ref (w.A 6)) (put a w m H) := g_fld (at_2 g) T.cl_Field T.n_Field_booked ((lk_miss (by decide +kernel)).trans lk_hit)
theorem rd_Field_play (T : Txt K mg a) (g : Good NC w.A) : gFld K "play" (.ref (w.A 2)) (put a w m H) Q = Q (.int m.play) (put a w m H) := g_fld (at_2 g) T.cl_Field T.n_Field_play ((lk_miss (by decide +kernel)).trans ((lk_miss (by decide +kernel)).trans lk_hit))
theorem pf_Field_play {z : Int} : putF "play" (.int z) ([("places", .ref (w.A 3)), ("booked", .ref (w.A 6)), ("play", .int m.play), ("changes", .ref (w.A 9)), ("windows", .ref (w.A 10)), ("in_window", .ref (w.A 11)), ("scored", .ref (w.A 12))] : List (Str × V)) = ([("places", .ref (w.A 3)), ("booked", .ref (w.A 6)), ("play", .int z), ("changes", .ref (w.A 9)), ("windows", .ref (w.A 10)), ("in_window", .ref (w.A 11)), ("scored", .ref (w.A 12))] : List (Str × V)) := by rw [pf_miss (by decide +kernel), pf_miss (by decide +kernel), pf_hit]
theorem wr_Field_play {z : Int} (T : Txt K mg a) (g : Good NC w.A) : gPut K "play" (.ref (w.A 2)) (.int z) (put a w m H) QH = QH (put a w { m with play := z } H) := by
  rw [g_put (at_2 g) T.cl_Field T.n_Field_play (by simp), pf_Field_play]
  exact congrArg QH (lay_set g rfl (by decide))
theorem au_Field_play {rd : V → V → Hp → VK → Prop} {tv : TE} {σ : L2.St} (T : Txt K mg a) (g : Good NC w.A) : gAug K "play" tv rd σ (.ref (w.A 2)) (put a w m H) QH = tv σ (put a w m H) fun y H2 => rd (.int m.play) y H2 fun z H3 => gPutC a.c_Field "play" (w.A 2) z H3 QH := g_aug (at_2 g) T.cl_Field T.n_Field_play ((lk_miss (by decide +kernel)).trans ((lk_miss (by decide +kernel)).trans lk_hit))
theorem wa_Field_play {z : Int} (g : Good NC w.A) : gPutC a.c_Field "play" (w.A 2) (.int z) (put a w m H) QH = QH (put a w { m with play := z } H) := by
  rw [g_putC (at_2 g) (by simp), pf_Field_play]
  exact congrArg QH (lay_set g rfl (by decide))
theorem rd_Field_changes (T : Txt K mg a) (g : Good NC w.A) : gFld K "changes" (.ref (w.A 2)) (put a w m H) Q = Q (.ref (w.A 9)) (put a w m H) := g_fld (at_2 g) T.cl_Field T.n_Field_changes ((lk_miss (by decide +kernel)).trans ((lk_miss (by decide +kernel)).trans ((lk_miss (by decide +kernel)).trans lk_hit)))
theorem rd_Field_windows (T : Txt K mg a) (g : Good NC w.A) : gFld K "windows" (.ref (w.A 2)) (put a w m H) Q = Q (.ref (w.A 10)) (put a w m H) := g_fld (at_2 g) T.cl_Field T.n_Field_windows ((lk_miss (by decide +kernel)).trans ((lk_miss (by decide +kernel)).trans ((lk_miss (by decide +kernel)).trans ((lk_miss (by decide +kernel)).trans lk_hit))))
theorem rd_Field_in_window (T : Txt K mg a) (g : Good NC w.A) : gFld K "in_window" (.ref (w.A 2)) (put a w m H) Q = Q (.ref (w.A 11)) (put a w m H) := g_fld (at_2 g) T.cl_Field T.n_Field_in_window ((lk_miss (by decide +kernel)).trans ((lk_miss (by decide +kernel)).trans ((lk_miss (by decide +kernel)).trans ((lk_miss (by decide +kernel)).trans ((lk_miss (by decide +kernel)).trans lk_hit)))))
theorem rd_Field_scored (T : Txt K mg a) (g : Good NC w.A) : gFld K "scored" (.ref (w.A 2)) (put a w m H) Q = Q (.ref (w.A 12)) (put a w m H) := g_fld (at_2 g) T.cl_Field T.n_Field_scored ((lk_miss (by decide +kernel)).trans ((lk_miss (by decide +kernel)).trans ((lk_miss (by decide +kernel)).trans ((lk_miss (by decide +kernel)).trans ((lk_miss (by decide +kernel)).trans ((lk_miss (by decide +kernel)).trans lk_hit))))))
theorem pn_Field_places {v0 : V} : putF "places" v0 ([] : List (Str × V)) = ([("places", v0)] : List (Str × V)) := by rw [pf_nil]
theorem pn_Field_booked {v0 v1 : V} : putF "booked" v1 ([("places", v0)] : List (Str × V)) = ([("places", v0), ("booked", v1)] : List (Str × V)) := by rw [pf_miss (by decide +kernel), pf_nil]
theorem pn_Field_play {v0 v1 v2 : V} : putF "play" v2 ([("places", v0), ("booked", v1)] : List (Str × V)) = ([("places", v0), ("booked", v1), ("play", v2)] : List (Str × V)) := by rw [pf_miss (by decide +kernel), pf_miss (by decide +kernel), pf_nil]
theorem pn_Field_changes {v0 v1 v2 v3 : V} : putF "changes" v3 ([("places", v0), ("booked", v1), ("play", v2)] : List (Str × V)) = ([("places", v0), ("booked", v1), ("play", v2), ("changes", v3)] : List (Str × V)) := by rw [pf_miss (by decide +kernel), pf_miss (by decide +kernel), pf_miss (by decide +kernel), pf_nil]
theorem pn_Field_windows {v0 v1 v2 v3 v4 : V} : putF "windows" v4 ([("places", v0), ("booked", v1), ("play", v2), ("changes", v3)] : List (Str × V)) = ([("places", v0), ("booked", v1), ("play", v2), ("changes", v3), ("windows", v4)] : List (Str × V)) := by rw [pf_miss (by decide +kernel), pf_miss (by decide +kernel), pf_miss (by decide +kernel), pf_miss (by decide +kernel), pf_nil]
theorem pn_Field_in_window {v0 v1 v2 v3 v4 v5 : V} : putF "in_window" v5 ([("places", v0), ("booked", v1), ("play", v2), ("changes", v3), ("windows", v4)] : List (Str × V)) = ([("places", v0), ("booked", v1), ("play", v2), ("changes", v3), ("windows", v4), ("in_window", v5)] : List (Str × V)) := by rw [pf_miss (by decide +kernel), pf_miss (by decide +kernel), pf_miss (by decide +kernel), pf_miss (by decide +kernel), pf_miss (by decide +kernel), pf_nil]
theorem pn_Field_scored {v0 v1 v2 v3 v4 v5 v6 : V} : putF "scored" v6 ([("places", v0), ("booked", v1), ("play", v2), ("changes", v3), ("windows", v4), ("in_window", v5)] : List (Str × V)) = ([("places", v0), ("booked", v1), ("play", v2), ("changes", v3), ("windows", v4), ("in_window", v5), ("scored", v6)] : List (Str × V)) := by rw [pf_miss (by decide +kernel), pf_miss (by decide +kernel), pf_miss (by decide +kernel), pf_miss (by decide +kernel), pf_miss (by decide +kernel), pf_miss (by decide +kernel), pf_nil]
theorem me_Field_set_play (g : Good NC w.A) : gMeth a.c_Field "set_play" (.ref (w.A 2)) (put a w m H) P = P := g_meth (at_2 g) ((lk_miss (by decide +kernel)).trans ((lk_miss (by decide +kernel)).trans ((lk_miss (by decide +kernel)).trans ((lk_miss (by decide +kernel)).trans ((lk_miss (by decide +kernel)).trans ((lk_miss (by decide +kernel)).trans ((lk_miss (by decide +kernel)).trans lk_nil)))))))
theorem me_Field_is_standing (g : Good NC w.A) : gMeth a.c_Field "is_standing" (.ref (w.A 2)) (put a w m H) P = P := g_meth (at_2 g) ((lk_miss (by decide +kernel)).trans ((lk_miss (by decide +kernel)).trans ((lk_miss (by decide +kernel)).trans ((lk_miss (by decide +kernel)).trans ((lk_miss (by decide +kernel)).trans ((lk_miss (by decide +kernel)).trans ((lk_miss (by decide +kernel)).trans lk_nil)))))))
theorem me_Field_is_on (g : Good NC w.A) : gMeth a.c_Field "is_on" (.ref (w.A 2)) (put a w m H) P = P := g_meth (at_2 g) ((lk_miss (by decide +kernel)).trans ((lk_miss (by decide +kernel)).trans ((lk_miss (by decide +kernel)).trans ((lk_miss (by decide +kernel)).trans ((lk_miss (by decide +kernel)).trans ((lk_miss (by decide +kernel)).trans ((lk_miss (by decide +kernel)).trans lk_nil)))))))
theorem me_Field_players_on (g : Good NC w.A) : gMeth a.c_Field "players_on" (.ref (w.A 2)) (put a w m H) P = P := g_meth (at_2 g) ((lk_miss (by decide +kernel)).trans ((lk_miss (by decide +kernel)).trans ((lk_miss (by decide +kernel)).trans ((lk_miss (by decide +kernel)).trans ((lk_miss (by decide +kernel)).trans ((lk_miss (by decide +kernel)).trans ((lk_miss (by decide +kernel)).trans lk_nil)))))))
theorem me_Field_too_few (g : Good NC w.A) : gMeth a.c_Field "too_few" (.ref (w.A 2)) (put a w m H) P = P := g_meth (at_2 g) ((lk_miss (by decide +kernel)).trans ((lk_miss (by decide +kernel)).trans ((lk_miss (by decide +kernel)).trans ((lk_miss (by decide +kernel)).trans ((lk_miss (by decide +kernel)).trans ((lk_miss (by decide +kernel)).trans ((lk_miss (by decide +kernel)).trans lk_nil)))))))
theorem me_Field_on (g : Good NC w.A) : gMeth a.c_Field "on" (.ref (w.A 2)) (put a w m H) P = P := g_meth (at_2 g) ((lk_miss (by decide +kernel)).trans ((lk_miss (by decide +kernel)).trans ((lk_miss (by decide +kernel)).trans ((lk_miss (by decide +kernel)).trans ((lk_miss (by decide +kernel)).trans ((lk_miss (by decide +kernel)).trans ((lk_miss (by decide +kernel)).trans lk_nil)))))))
theorem me_Field_card (g : Good NC w.A) : gMeth a.c_Field "card" (.ref (w.A 2)) (put a w m H) P = P := g_meth (at_2 g) ((lk_miss (by decide +kernel)).trans ((lk_miss (by decide +kernel)).trans ((lk_miss (by decide +kernel)).trans ((lk_miss (by decide +kernel)).trans ((lk_miss (by decide +kernel)).trans ((lk_miss (by decide +kernel)).trans ((lk_miss (by decide +kernel)).trans lk_nil)))))))
theorem me_Field_change (g : Good NC w.A) : gMeth a.c_Field "change" (.ref (w.A 2)) (put a w m H) P = P := g_meth (at_2 g) ((lk_miss (by decide +kernel)).trans ((lk_miss (by decide +kernel)).trans ((lk_miss (by decide +kernel)).trans ((lk_miss (by decide +kernel)).trans ((lk_miss (by decide +kernel)).trans ((lk_miss (by decide +kernel)).trans ((lk_miss (by decide +kernel)).trans lk_nil)))))))
theorem me_Field_change_refusal (g : Good NC w.A) : gMeth a.c_Field "change_refusal" (.ref (w.A 2)) (put a w m H) P = P := g_meth (at_2 g) ((lk_miss (by decide +kernel)).trans ((lk_miss (by decide +kernel)).trans ((lk_miss (by decide +kernel)).trans ((lk_miss (by decide +kernel)).trans ((lk_miss (by decide +kernel)).trans ((lk_miss (by decide +kernel)).trans ((lk_miss (by decide +kernel)).trans lk_nil)))))))
theorem me_Field_needs_window (g : Good NC w.A) : gMeth a.c_Field "needs_window" (.ref (w.A 2)) (put a w m H) P = P := g_meth (at_2 g) ((lk_miss (by decide +kernel)).trans ((lk_miss (by decide +kernel)).trans ((lk_miss (by decide +kernel)).trans ((lk_miss (by decide +kernel)).trans ((lk_miss (by decide +kernel)).trans ((lk_miss (by decide +kernel)).trans ((lk_miss (by decide +kernel)).trans lk_nil)))))))
theorem me_Field_take_window (g : Good NC w.A) : gMeth a.c_Field "take_window" (.ref (w.A 2)) (put a w m H) P = P := g_meth (at_2 g) ((lk_miss (by decide +kernel)).trans ((lk_miss (by decide +kernel)).trans ((lk_miss (by decide +kernel)).trans ((lk_miss (by decide +kernel)).trans ((lk_miss (by decide +kernel)).trans ((lk_miss (by decide +kernel)).trans ((lk_miss (by decide +kernel)).trans lk_nil)))))))
theorem me_Field_goal (g : Good NC w.A) : gMeth a.c_Field "goal" (.ref (w.A 2)) (put a w m H) P = P := g_meth (at_2 g) ((lk_miss (by decide +kernel)).trans ((lk_miss (by decide +kernel)).trans ((lk_miss (by decide +kernel)).trans ((lk_miss (by decide +kernel)).trans ((lk_miss (by decide +kernel)).trans ((lk_miss (by decide +kernel)).trans ((lk_miss (by decide +kernel)).trans lk_nil)))))))
theorem at_3 (g : Good NC w.A) : put a w m H (w.A 3) = some (.lst [.ref (w.A 4), .ref (w.A 5)]) := lay_at g rfl rfl
theorem ix_3 {i : Int} (g : Good NC w.A) : rIxP (.ref (w.A 3)) (.int i) (put a w m H) Q = ∃ v, atI ([.ref (w.A 4), .ref (w.A 5)]) i = some v ∧ Q v (put a w m H) := g_ix (at_3 g)
theorem ty_3 (g : Good NC w.A) : tyV K "list" (.ref (w.A 3)) (put a w m H) = True := eq_true (.inl ⟨rfl, _, SqL.of (at_3 g)⟩)
theorem at_4 (g : Good NC w.A) : put a w m H (w.A 4) = some (.lst (m.pl0.map V.int)) := lay_at g rfl rfl
theorem ix_4 {i : Int} (g : Good NC w.A) : rIxP (.ref (w.A 4)) (.int i) (put a w m H) Q = ∃ v, atI ((m.pl0.map V.int)) i = some v ∧ Q v (put a w m H) := g_ix (at_4 g)
theorem ty_4 (g : Good NC w.A) : tyV K "list" (.ref (w.A 4)) (put a w m H) = True := eq_true (.inl ⟨rfl, _, SqL.of (at_4 g)⟩)
theorem se_4 {i : Int} {z : Int} (g : Good NC w.A) (h0 : 0 ≤ i) (h1 : i < m.pl0.length) : rSetL (.ref (w.A 4)) (.int i) (.int z) (put a w m H) QH = QH (put a w { m with pl0 := m.pl0.set i.toNat z } H) := by
  rw [g_set (at_4 g), List.length_map, ixN_in h0 h1, x_someN, set_ints]
  exact congrArg QH (lay_set g rfl (by decide))
theorem in_4 {k : Int} (g : Good NC w.A) : rInP (.int k) (.ref (w.A 4)) (put a w m H) Q = Q (.bl (decide (k ∈ m.pl0))) (put a w m H) := g_in (at_4 g)
theorem le_4 (g : Good NC w.A) : rLenP [.ref (w.A 4)] (put a w m H) Q = Q (.int (m.pl0.length : Nat)) (put a w m H) := (g_len (at_4 g)).trans (by rw [List.length_map])
theorem sl_4 {lo hi : Option Int} (g : Good NC w.A) : rSlP (.ref (w.A 4)) lo hi (put a w m H) Q = ∀ p, put a w m H p = none → Q (.ref p) (upd (put a w m H) p (.lst (cutV (m.pl0.map V.int) lo hi))) := g_sl (at_4 g)
theorem ap_4 {z : Int} (g : Good NC w.A) (h : m.pl0.length < sizeLine) : rAppend (.ref (w.A 4)) [.int z] (put a w m H) Q = Q .non (put a w { m with pl0 := m.pl0 ++ [z] } H) := by
  rw [g_app (at_4 g) (by rw [List.length_map]; exact h), app_ints]
  exact congrArg (Q .non) (lay_set g rfl (by decide))
theorem co_4 {k : Int} (g : Good NC w.A) : rCountP (.ref (w.A 4)) [.int k] (put a w m H) Q = Q (.int (m.pl0.count k : Nat)) (put a w m H) := g_count (at_4 g)
theorem at_5 (g : Good NC w.A) : put a w m H (w.A 5) = some (.lst (m.pl1.map V.int)) := lay_at g rfl rfl
theorem ix_5 {i : Int} (g : Good NC w.A) : rIxP (.ref (w.A 5)) (.int i) (put a w m H) Q = ∃ v, atI ((m.pl1.map V.int)) i = some v ∧ Q v (put a w m H) := g_ix (at_5 g)
theorem ty_5 (g : Good NC w.A) : tyV K "list" (.ref (w.A 5)) (put a w m H) = True := eq_true (.inl ⟨rfl, _, SqL.of (at_5 g)⟩)
theorem se_5 {i : Int} {z : Int} (g : Good NC w.A) (h0 : 0 ≤ i) (h1 : i < m.pl1.length) : rSetL (.ref (w.A 5)) (.int i) (.int z) (put a w m H) QH = QH (put a w { m with pl1 := m.pl1.set i.toNat z } H) := by
  rw [g_set (at_5 g), List.length_map, ixN_in h0 h1, x_someN, set_ints]
  exact congrArg QH (lay_set g rfl (by decide))
theorem in_5 {k : Int} (g : Good NC w.A) : rInP (.int k) (.ref (w.A 5)) (put a w m H) Q = Q (.bl (decide (k ∈ m.pl1))) (put a w m H) := g_in (at_5 g)
theorem le_5 (g : Good NC w.A) : rLenP [.ref (w.A 5)] (put a w m H) Q = Q (.int (m.pl1.length : Nat)) (put a w m H) := (g_len (at_5 g)).trans (by rw [List.length_map])
theorem sl_5 {lo hi : Option Int} (g : Good NC w.A) : rSlP (.ref (w.A 5)) lo hi (put a w m H) Q = ∀ p, put a w m H p = none → Q (.ref p) (upd (put a w m H) p (.lst (cutV (m.pl1.map V.int) lo hi))) := g_sl (at_5 g)
theorem ap_5 {z : Int} (g : Good NC w.A) (h : m.pl1.length < sizeLine) : rAppend (.ref (w.A 5)) [.int z] (put a w m H) Q = Q .non (put a w { m with pl1 := m.pl1 ++ [z] } H) := by
  rw [g_app (at_5 g) (by rw [List.length_map]; exact h), app_ints]
  exact congrArg (Q .non) (lay_set g rfl (by decide))
theorem co_5 {k : Int} (g : Good NC w.A) : rCountP (.ref (w.A 5)) [.int k] (put a w m H) Q = Q (.int (m.pl1.count k : Nat)) (put a w m H) := g_count (at_5 g)
theorem at_6 (g : Good NC w.A) : put a w m H (w.A 6) = some (.lst [.ref (w.A 7), .ref (w.A 8)]) := lay_at g rfl rfl
theorem ix_6 {i : Int} (g : Good NC w.A) : rIxP (.ref (w.A 6)) (.int i) (put a w m H) Q = ∃ v, atI ([.ref (w.A 7), .ref (w.A 8)]) i = some v ∧ Q v (put a w m H) := g_ix (at_6 g)
theorem ty_6 (g : Good NC w.A) : tyV K "list" (.ref (w.A 6)) (put a w m H) = True := eq_true (.inl ⟨rfl, _, SqL.of (at_6 g)⟩)
theorem at_7 (g : Good NC w.A) : put a w m H (w.A 7) = some (.lst (m.bk0.map V.bl)) := lay_at g rfl rfl
theorem ix_7 {i : Int} (g : Good NC w.A) : rIxP (.ref (w.A 7)) (.int i) (put a w m H) Q = ∃ v, atI ((m.bk0.map V.bl)) i = some v ∧ Q v (put a w m H) := g_ix (at_7 g)
theorem ty_7 (g : Good NC w.A) : tyV K "list" (.ref (w.A 7)) (put a w m H) = True := eq_true (.inl ⟨rfl, _, SqL.of (at_7 g)⟩)
theorem se_7 {i : Int} {z : Bool} (g : Good NC w.A) (h0 : 0 ≤ i) (h1 : i < m.bk0.length) : rSetL (.ref (w.A 7)) (.int i) (.bl z) (put a w m H) QH = QH (put a w { m with bk0 := m.bk0.set i.toNat z } H) := by
  rw [g_set (at_7 g), List.length_map, ixN_in h0 h1, x_someN, set_bls]
  exact congrArg QH (lay_set g rfl (by decide))
theorem at_8 (g : Good NC w.A) : put a w m H (w.A 8) = some (.lst (m.bk1.map V.bl)) := lay_at g rfl rfl
theorem ix_8 {i : Int} (g : Good NC w.A) : rIxP (.ref (w.A 8)) (.int i) (put a w m H) Q = ∃ v, atI ((m.bk1.map V.bl)) i = some v ∧ Q v (put a w m H) := g_ix (at_8 g)
theorem ty_8 (g : Good NC w.A) : tyV K "list" (.ref (w.A 8)) (put a w m H) = True := eq_true (.inl ⟨rfl, _, SqL.of (at_8 g)⟩)
theorem se_8 {i : Int} {z : Bool} (g : Good NC w.A) (h0 : 0 ≤ i) (h1 : i < m.bk1.length) : rSetL (.ref (w.A 8)) (.int i) (.bl z) (put a w m H) QH = QH (put a w { m with bk1 := m.bk1.set i.toNat z } H) := by
  rw [g_set (at_8 g), List.length_map, ixN_in h0 h1, x_someN, set_bls]
  exact congrArg QH (lay_set g rfl (by decide))
theorem at_9 (g : Good NC w.A) : put a w m H (w.A 9) = some (.lst [.int m.ch0, .int m.ch1]) := lay_at g rfl rfl
theorem ix_9 {i : Int} (g : Good NC w.A) : rIxP (.ref (w.A 9)) (.int i) (put a w m H) Q = ∃ v, atI ([.int m.ch0, .int m.ch1]) i = some v ∧ Q v (put a w m H) := g_ix (at_9 g)
theorem ty_9 (g : Good NC w.A) : tyV K "list" (.ref (w.A 9)) (put a w m H) = True := eq_true (.inl ⟨rfl, _, SqL.of (at_9 g)⟩)
theorem mi_9 (g : Good NC w.A) : rMinP [.ref (w.A 9)] (put a w m H) Q = Q (.int (if m.ch1 < m.ch0 then m.ch1 else m.ch0)) (put a w m H) := g_min (at_9 g)
theorem se_9_0 {z : Int} (g : Good NC w.A) : rSetL (.ref (w.A 9)) (.int 0) (.int z) (put a w m H) QH = QH (put a w { m with ch0 := z } H) := by
  rw [g_set (at_9 g)]
  exact x_someN.trans (congrArg QH (lay_set g rfl (by decide)))
theorem se_9_1 {z : Int} (g : Good NC w.A) : rSetL (.ref (w.A 9)) (.int 1) (.int z) (put a w m H) QH = QH (put a w { m with ch1 := z } H) := by
  rw [g_set (at_9 g)]
  exact x_someN.trans (congrArg QH (lay_set g rfl (by decide)))
theorem at_10 (g : Good NC w.A) : put a w m H (w.A 10) = some (.lst [.int m.wi0, .int m.wi1]) := lay_at g rfl rfl
theorem ix_10 {i : Int} (g : Good NC w.A) : rIxP (.ref (w.A 10)) (.int i) (put a w m H) Q = ∃ v, atI ([.int m.wi0, .int m.wi1]) i = some v ∧ Q v (put a w m H) := g_ix (at_10 g)
theorem ty_10 (g : Good NC w.A) : tyV K "list" (.ref (w.A 10)) (put a w m H) = True := eq_true (.inl ⟨rfl, _, SqL.of (at_10 g)⟩)
theorem mi_10 (g : Good NC w.A) : rMinP [.ref (w.A 10)] (put a w m H) Q = Q (.int (if m.wi1 < m.wi0 then m.wi1 else m.wi0)) (put a w m H) := g_min (at_10 g)
theorem se_10_0 {z : Int} (g : Good NC w.A) : rSetL (.ref (w.A 10)) (.int 0) (.int z) (put a w m H) QH = QH (put a w { m with wi0 := z } H) := by
  rw [g_set (at_10 g)]
  exact x_someN.trans (congrArg QH (lay_set g rfl (by decide)))
theorem se_10_1 {z : Int} (g : Good NC w.A) : rSetL (.ref (w.A 10)) (.int 1) (.int z) (put a w m H) QH = QH (put a w { m with wi1 := z } H) := by
  rw [g_set (at_10 g)]
  exact x_someN.trans (congrArg QH (lay_set g rfl (by decide)))
theorem at_11 (g : Good NC w.A) : put a w m H (w.A 11) = some (.lst [.bl m.iw0, .bl m.iw1]) := lay_at g rfl rfl
theorem ix_11 {i : Int} (g : Good NC w.A) : rIxP (.ref (w.A 11)) (.int i) (put a w m H) Q = ∃ v, atI ([.bl m.iw0, .bl m.iw1]) i = some v ∧ Q v (put a w m H) := g_ix (at_11 g)
theorem ty_11 (g : Good NC w.A) : tyV K "list" (.ref (w.A 11)) (put a w m H) = True := eq_true (.inl ⟨rfl, _, SqL.of (at_11 g)⟩)
theorem se_11_0 {z : Bool} (g : Good NC w.A) : rSetL (.ref (w.A 11)) (.int 0) (.bl z) (put a w m H) QH = QH (put a w { m with iw0 := z } H) := by
  rw [g_set (at_11 g)]
  exact x_someN.trans (congrArg QH (lay_set g rfl (by decide)))
theorem se_11_1 {z : Bool} (g : Good NC w.A) : rSetL (.ref (w.A 11)) (.int 1) (.bl z) (put a w m H) QH = QH (put a w { m with iw1 := z } H) := by
  rw [g_set (at_11 g)]
  exact x_someN.trans (congrArg QH (lay_set g rfl (by decide)))
theorem at_12 (g : Good NC w.A) : put a w m H (w.A 12) = some (.lst [.int m.sc0, .int m.sc1]) := lay_at g rfl rfl
theorem ix_12 {i : Int} (g : Good NC w.A) : rIxP (.ref (w.A 12)) (.int i) (put a w m H) Q = ∃ v, atI ([.int m.sc0, .int m.sc1]) i = some v ∧ Q v (put a w m H) := g_ix (at_12 g)
theorem ty_12 (g : Good NC w.A) : tyV K "list" (.ref (w.A 12)) (put a w m H) = True := eq_true (.inl ⟨rfl, _, SqL.of (at_12 g)⟩)
theorem mi_12 (g : Good NC w.A) : rMinP [.ref (w.A 12)] (put a w m H) Q = Q (.int (if m.sc1 < m.sc0 then m.sc1 else m.sc0)) (put a w m H) := g_min (at_12 g)
theorem se_12_0 {z : Int} (g : Good NC w.A) : rSetL (.ref (w.A 12)) (.int 0) (.int z) (put a w m H) QH = QH (put a w { m with sc0 := z } H) := by
  rw [g_set (at_12 g)]
  exact x_someN.trans (congrArg QH (lay_set g rfl (by decide)))
theorem se_12_1 {z : Int} (g : Good NC w.A) : rSetL (.ref (w.A 12)) (.int 1) (.int z) (put a w m H) QH = QH (put a w { m with sc1 := z } H) := by
  rw [g_set (at_12 g)]
  exact x_someN.trans (congrArg QH (lay_set g rfl (by decide)))
theorem at_13 (g : Good NC w.A) : put a w m H (w.A 13) = some (.lst (m.lens.map V.int)) := lay_at g rfl rfl
theorem ix_13 {i : Int} (g : Good NC w.A) : rIxP (.ref (w.A 13)) (.int i) (put a w m H) Q = ∃ v, atI ((m.lens.map V.int)) i = some v ∧ Q v (put a w m H) := g_ix (at_13 g)
theorem ty_13 (g : Good NC w.A) : tyV K "list" (.ref (w.A 13)) (put a w m H) = True := eq_true (.inl ⟨rfl, _, SqL.of (at_13 g)⟩)
theorem se_13 {i : Int} {z : Int} (g : Good NC w.A) (h0 : 0 ≤ i) (h1 : i < m.lens.length) : rSetL (.ref (w.A 13)) (.int i) (.int z) (put a w m H) QH = QH (put a w { m with lens := m.lens.set i.toNat z } H) := by
  rw [g_set (at_13 g), List.length_map, ixN_in h0 h1, x_someN, set_ints]
  exact congrArg QH (lay_set g rfl (by decide))
theorem in_13 {k : Int} (g : Good NC w.A) : rInP (.int k) (.ref (w.A 13)) (put a w m H) Q = Q (.bl (decide (k ∈ m.lens))) (put a w m H) := g_in (at_13 g)
theorem le_13 (g : Good NC w.A) : rLenP [.ref (w.A 13)] (put a w m H) Q = Q (.int (m.lens.length : Nat)) (put a w m H) := (g_len (at_13 g)).trans (by rw [List.length_map])
theorem sl_13 {lo hi : Option Int} (g : Good NC w.A) : rSlP (.ref (w.A 13)) lo hi (put a w m H) Q = ∀ p, put a w m H p = none → Q (.ref p) (upd (put a w m H) p (.lst (cutV (m.lens.map V.int) lo hi))) := g_sl (at_13 g)
theorem ap_13 {z : Int} (g : Good NC w.A) (h : m.lens.length < sizeLine) : rAppend (.ref (w.A 13)) [.int z] (put a w m H) Q = Q .non (put a w { m with lens := m.lens ++ [z] } H) := by
  rw [g_app (at_13 g) (by rw [List.length_map]; exact h), app_ints]
  exact congrArg (Q .non) (lay_set g rfl (by decide))
theorem co_13 {k : Int} (g : Good NC w.A) : rCountP (.ref (w.A 13)) [.int k] (put a w m H) Q = Q (.int (m.lens.count k : Nat)) (put a w m H) := g_count (at_13 g)
def mv (w : Wd) (i : Nat) (q : Addr) : Wd := { w with A := moved w.A i q }
theorem mv_good {i : Nat} {q : Addr} (g : Good NC w.A) (h : Out NC w.A q) : Good NC (mv w i q).A := moved_good g h
theorem mv_Field_in_window {q : Addr} {z0 : Bool} {z1 : Bool} (T : Txt K mg a) (g : Good NC w.A) (h : Out NC w.A q) : gPut K "in_window" (.ref (w.A 2)) (.ref q) (upd (put a w m H) q (.lst [.bl z0, .bl z1])) QH = QH (put a (mv w 11 q) { m with iw0 := z0, iw1 := z1 } (upd H (w.A 11) (.lst [.bl m.iw0, .bl m.iw1]))) := by
  have e : upd (put a w m H) q (.lst [.bl z0, .bl z1]) = lay (mv w 11 q).A ((cells a w m).set 11 (.lst [.bl z0, .bl z1])) 0 (upd H (w.A 11) (.lst [.bl m.iw0, .bl m.iw1])) := lay_move g rfl (by decide) rfl h
  rw [e]
  have g2 : Good NC (mv w 11 q).A := mv_good g h
  rw [show w.A 2 = (mv w 11 q).A 2 from rfl, g_put (lay_at (i := 2) g2 rfl rfl) T.cl_Field T.n_Field_in_window (by simp)]
  rw [lay_set g2 rfl (by decide)]
  refine congrArg QH ?_
  rw [pf_miss (by decide +kernel), pf_miss (by decide +kernel), pf_miss (by decide +kernel), pf_miss (by decide +kernel), pf_miss (by decide +kernel), pf_hit]
  rfl
theorem put_none {b : Addr} (g : Good NC w.A) (h : put a w m H b = none) : Out NC w.A b ∧ H b = none := lay_none g rfl h
theorem put_out {b : Addr} (h : Out NC w.A b) : put a w m H b = H b := lay_out rfl h
theorem put_upd {b : Addr} {o : HO} (g : Good NC w.A) (h : Out NC w.A b) : upd (put a w m H) b o = put a w m (upd H b o) := lay_upd g rfl h
end
/-- the values of the objects -/
structure KM where
  turn : Int
  tk0 : Int
  tk1 : Int
  hi0 : Int
  hi1 : Int
  ro0 : List Int
  ro1 : List Int
/-- where they lie: objects and lists, and the objects' dicts -/
structure KW where
  A : Nat → Addr
  d : Nat → Addr
def kcells (a : Ad) (w : KW) (m : KM) : List HO := [
  .ins a.c_Kicks (w.d 0) [("turn", .int m.turn), ("taken", .ref (w.A 1)), ("hits", .ref (w.A 2)), ("in_round", .ref (w.A 5))],
  .lst [.int m.tk0, .int m.tk1],
  .lst [.int m.hi0, .int m.hi1],
  .lst (m.ro0.map V.int),
  .lst (m.ro1.map V.int),
  .lst [.ref (w.A 3), .ref (w.A 4)]]
def kput (a : Ad) (w : KW) (m : KM) (H : Hp) : Hp := lay w.A (kcells a w m) 0 H
abbrev NK : Nat := 6
section
variable {K : PySem.W.Frag} {mg : Str → Option Value} {a : Ad} {w : KW} {m : KM} {H : Hp} {Q : VK} {QH : Hp → Prop} {P : Prop}
theorem kat_0 (g : Good NK w.A) : kput a w m H (w.A 0) = some (.ins a.c_Kicks (w.d 0) [("turn", .int m.turn), ("taken", .ref (w.A 1)), ("hits", .ref (w.A 2)), ("in_round", .ref (w.A 5))]) := lay_at g rfl rfl
theorem rd_Kicks_turn (T : Txt K mg a) (g : Good NK w.A) : gFld K "turn" (.ref (w.A 0)) (kput a w m H) Q = Q (.int m.turn) (kput a w m H) := g_fld (kat_0 g) T.cl_Kicks T.n_Kicks_turn lk_hit
theorem pf_Kicks_turn {z : Int} : putF "turn" (.int z) ([("turn", .int m.turn), ("taken", .ref (w.A 1)), ("hits", .ref (w.A 2)), ("in_round", .ref (w.A 5))] : List (Str × V)) = ([("turn", .int z), ("taken", .ref (w.A 1)), ("hits", .ref (w.A 2)), ("in_round", .ref (w.A 5))] : List (Str × V)) := by rw [pf_hit]
theorem wr_Kicks_turn {z : Int} (T : Txt K mg a) (g : Good NK w.A) : gPut K "turn" (.ref (w.A 0)) (.int z) (kput a w m H) QH = QH (kput a w { m with turn := z } H) := by
  rw [g_put (kat_0 g) T.cl_Kicks T.n_Kicks_turn (by simp), pf_Kicks_turn]
  exact congrArg QH (lay_set g rfl (by decide))
theorem au_Kicks_turn {rd : V → V → Hp → VK → Prop} {tv : TE} {σ : L2.St} (T : Txt K mg a) (g : Good NK w.A) : gAug K "turn" tv rd σ (.ref (w.A 0)) (kput a w m H) QH = tv σ (kput a w m H) fun y H2 => rd (.int m.turn) y H2 fun z H3 => gPutC a.c_Kicks "turn" (w.A 0) z H3 QH := g_aug (kat_0 g) T.cl_Kicks T.n_Kicks_turn lk_hit
theorem wa_Kicks_turn {z : Int} (g : Good NK w.A) : gPutC a.c_Kicks "turn" (w.A 0) (.int z) (kput a w m H) QH = QH (kput a w { m with turn := z } H) := by
  rw [g_putC (kat_0 g) (by simp), pf_Kicks_turn]
  exact congrArg QH (lay_set g rfl (by decide))
theorem rd_Kicks_taken (T : Txt K mg a) (g : Good NK w.A) : gFld K "taken" (.ref (w.A 0)) (kput a w m H) Q = Q (.ref (w.A 1)) (kput a w m H) := g_fld (kat_0 g) T.cl_Kicks T.n_Kicks_taken ((lk_miss (by decide +kernel)).trans lk_hit)
theorem rd_Kicks_hits (T : Txt K mg a) (g : Good NK w.A) : gFld K "hits" (.ref (w.A 0)) (kput a w m H) Q = Q (.ref (w.A 2)) (kput a w m H) := g_fld (kat_0 g) T.cl_Kicks T.n_Kicks_hits ((lk_miss (by decide +kernel)).trans ((lk_miss (by decide +kernel)).trans lk_hit))
theorem rd_Kicks_in_round (T : Txt K mg a) (g : Good NK w.A) : gFld K "in_round" (.ref (w.A 0)) (kput a w m H) Q = Q (.ref (w.A 5)) (kput a w m H) := g_fld (kat_0 g) T.cl_Kicks T.n_Kicks_in_round ((lk_miss (by decide +kernel)).trans ((lk_miss (by decide +kernel)).trans ((lk_miss (by decide +kernel)).trans lk_hit)))
theorem pn_Kicks_turn {v0 : V} : putF "turn" v0 ([] : List (Str × V)) = ([("turn", v0)] : List (Str × V)) := by rw [pf_nil]
theorem pn_Kicks_taken {v0 v1 : V} : putF "taken" v1 ([("turn", v0)] : List (Str × V)) = ([("turn", v0), ("taken", v1)] : List (Str × V)) := by rw [pf_miss (by decide +kernel), pf_nil]
theorem pn_Kicks_hits {v0 v1 v2 : V} : putF "hits" v2 ([("turn", v0), ("taken", v1)] : List (Str × V)) = ([("turn", v0), ("taken", v1), ("hits", v2)] : List (Str × V)) := by rw [pf_miss (by decide +kernel), pf_miss (by decide +kernel), pf_nil]
theorem pn_Kicks_in_round {v0 v1 v2 v3 : V} : putF "in_round" v3 ([("turn", v0), ("taken", v1), ("hits", v2)] : List (Str × V)) = ([("turn", v0), ("taken", v1), ("hits", v2), ("in_round", v3)] : List (Str × V)) := by rw [pf_miss (by decide +kernel), pf_miss (by decide +kernel), pf_miss (by decide +kernel), pf_nil]
theorem me_Kicks_all_taken (g : Good NK w.A) : gMeth a.c_Kicks "all_taken" (.ref (w.A 0)) (kput a w m H) P = P := g_meth (kat_0 g) ((lk_miss (by decide +kernel)).trans ((lk_miss (by decide +kernel)).trans ((lk_miss (by decide +kernel)).trans ((lk_miss (by decide +kernel)).trans lk_nil))))
theorem me_Kicks_round_is_done (g : Good NK w.A) : gMeth a.c_Kicks "round_is_done" (.ref (w.A 0)) (kput a w m H) P = P := g_meth (kat_0 g) ((lk_miss (by decide +kernel)).trans ((lk_miss (by decide +kernel)).trans ((lk_miss (by decide +kernel)).trans ((lk_miss (by decide +kernel)).trans lk_nil))))
theorem me_Kicks_must_wait (g : Good NK w.A) : gMeth a.c_Kicks "must_wait" (.ref (w.A 0)) (kput a w m H) P = P := g_meth (kat_0 g) ((lk_miss (by decide +kernel)).trans ((lk_miss (by decide +kernel)).trans ((lk_miss (by decide +kernel)).trans ((lk_miss (by decide +kernel)).trans lk_nil))))
theorem me_Kicks_take (g : Good NK w.A) : gMeth a.c_Kicks "take" (.ref (w.A 0)) (kput a w m H) P = P := g_meth (kat_0 g) ((lk_miss (by decide +kernel)).trans ((lk_miss (by decide +kernel)).trans ((lk_miss (by decide +kernel)).trans ((lk_miss (by decide +kernel)).trans lk_nil))))
theorem me_Kicks_decided_for (g : Good NK w.A) : gMeth a.c_Kicks "decided_for" (.ref (w.A 0)) (kput a w m H) P = P := g_meth (kat_0 g) ((lk_miss (by decide +kernel)).trans ((lk_miss (by decide +kernel)).trans ((lk_miss (by decide +kernel)).trans ((lk_miss (by decide +kernel)).trans lk_nil))))
theorem me_Kicks_left (g : Good NK w.A) : gMeth a.c_Kicks "left" (.ref (w.A 0)) (kput a w m H) P = P := g_meth (kat_0 g) ((lk_miss (by decide +kernel)).trans ((lk_miss (by decide +kernel)).trans ((lk_miss (by decide +kernel)).trans ((lk_miss (by decide +kernel)).trans lk_nil))))
theorem kat_1 (g : Good NK w.A) : kput a w m H (w.A 1) = some (.lst [.int m.tk0, .int m.tk1]) := lay_at g rfl rfl
theorem kix_1 {i : Int} (g : Good NK w.A) : rIxP (.ref (w.A 1)) (.int i) (kput a w m H) Q = ∃ v, atI ([.int m.tk0, .int m.tk1]) i = some v ∧ Q v (kput a w m H) := g_ix (kat_1 g)
theorem kty_1 (g : Good NK w.A) : tyV K "list" (.ref (w.A 1)) (kput a w m H) = True := eq_true (.inl ⟨rfl, _, SqL.of (kat_1 g)⟩)
theorem kmi_1 (g : Good NK w.A) : rMinP [.ref (w.A 1)] (kput a w m H) Q = Q (.int (if m.tk1 < m.tk0 then m.tk1 else m.tk0)) (kput a w m H) := g_min (kat_1 g)
theorem kse_1_0 {z : Int} (g : Good NK w.A) : rSetL (.ref (w.A 1)) (.int 0) (.int z) (kput a w m H) QH = QH (kput a w { m with tk0 := z } H) := by
  rw [g_set (kat_1 g)]
  exact x_someN.trans (congrArg QH (lay_set g rfl (by decide)))
theorem kse_1_1 {z : Int} (g : Good NK w.A) : rSetL (.ref (w.A 1)) (.int 1) (.int z) (kput a w m H) QH = QH (kput a w { m with tk1 := z } H) := by
  rw [g_set (kat_1 g)]
  exact x_someN.trans (congrArg QH (lay_set g rfl (by decide)))
theorem kat_2 (g : Good NK w.A) : kput a w m H (w.A 2) = some (.lst [.int m.hi0, .int m.hi1]) := lay_at g rfl rfl
theorem kix_2 {i : Int} (g : Good NK w.A) : rIxP (.ref (w.A 2)) (.int i) (kput a w m H) Q = ∃ v, atI ([.int m.hi0, .int m.hi1]) i = some v ∧ Q v (kput a w m H) := g_ix (kat_2 g)
theorem kty_2 (g : Good NK w.A) : tyV K "list" (.ref (w.A 2)) (kput a w m H) = True := eq_true (.inl ⟨rfl, _, SqL.of (kat_2 g)⟩)
theorem kmi_2 (g : Good NK w.A) : rMinP [.ref (w.A 2)] (kput a w m H) Q = Q (.int (if m.hi1 < m.hi0 then m.hi1 else m.hi0)) (kput a w m H) := g_min (kat_2 g)
theorem kse_2_0 {z : Int} (g : Good NK w.A) : rSetL (.ref (w.A 2)) (.int 0) (.int z) (kput a w m H) QH = QH (kput a w { m with hi0 := z } H) := by
  rw [g_set (kat_2 g)]
  exact x_someN.trans (congrArg QH (lay_set g rfl (by decide)))
theorem kse_2_1 {z : Int} (g : Good NK w.A) : rSetL (.ref (w.A 2)) (.int 1) (.int z) (kput a w m H) QH = QH (kput a w { m with hi1 := z } H) := by
  rw [g_set (kat_2 g)]
  exact x_someN.trans (congrArg QH (lay_set g rfl (by decide)))
theorem kat_3 (g : Good NK w.A) : kput a w m H (w.A 3) = some (.lst (m.ro0.map V.int)) := lay_at g rfl rfl
theorem kix_3 {i : Int} (g : Good NK w.A) : rIxP (.ref (w.A 3)) (.int i) (kput a w m H) Q = ∃ v, atI ((m.ro0.map V.int)) i = some v ∧ Q v (kput a w m H) := g_ix (kat_3 g)
theorem kty_3 (g : Good NK w.A) : tyV K "list" (.ref (w.A 3)) (kput a w m H) = True := eq_true (.inl ⟨rfl, _, SqL.of (kat_3 g)⟩)
theorem kse_3 {i : Int} {z : Int} (g : Good NK w.A) (h0 : 0 ≤ i) (h1 : i < m.ro0.length) : rSetL (.ref (w.A 3)) (.int i) (.int z) (kput a w m H) QH = QH (kput a w { m with ro0 := m.ro0.set i.toNat z } H) := by
  rw [g_set (kat_3 g), List.length_map, ixN_in h0 h1, x_someN, set_ints]
  exact congrArg QH (lay_set g rfl (by decide))
theorem kin_3 {k : Int} (g : Good NK w.A) : rInP (.int k) (.ref (w.A 3)) (kput a w m H) Q = Q (.bl (decide (k ∈ m.ro0))) (kput a w m H) := g_in (kat_3 g)
theorem kle_3 (g : Good NK w.A) : rLenP [.ref (w.A 3)] (kput a w m H) Q = Q (.int (m.ro0.length : Nat)) (kput a w m H) := (g_len (kat_3 g)).trans (by rw [List.length_map])
theorem ksl_3 {lo hi : Option Int} (g : Good NK w.A) : rSlP (.ref (w.A 3)) lo hi (kput a w m H) Q = ∀ p, kput a w m H p = none → Q (.ref p) (upd (kput a w m H) p (.lst (cutV (m.ro0.map V.int) lo hi))) := g_sl (kat_3 g)
theorem kap_3 {z : Int} (g : Good NK w.A) (h : m.ro0.length < sizeLine) : rAppend (.ref (w.A 3)) [.int z] (kput a w m H) Q = Q .non (kput a w { m with ro0 := m.ro0 ++ [z] } H) := by
  rw [g_app (kat_3 g) (by rw [List.length_map]; exact h), app_ints]
  exact congrArg (Q .non) (lay_set g rfl (by decide))
theorem kco_3 {k : Int} (g : Good NK w.A) : rCountP (.ref (w.A 3)) [.int k] (kput a w m H) Q = Q (.int (m.ro0.count k : Nat)) (kput a w m H) := g_count (kat_3 g)
theorem kat_4 (g : Good NK w.A) : kput a w m H (w.A 4) = some (.lst (m.ro1.map V.int)) := lay_at g rfl rfl
theorem kix_4 {i : Int} (g : Good NK w.A) : rIxP (.ref (w.A 4)) (.int i) (kput a w m H) Q = ∃ v, atI ((m.ro1.map V.int)) i = some v ∧ Q v (kput a w m H) := g_ix (kat_4 g)
theorem kty_4 (g : Good NK w.A) : tyV K "list" (.ref (w.A 4)) (kput a w m H) = True := eq_true (.inl ⟨rfl, _, SqL.of (kat_4 g)⟩)
theorem kse_4 {i : Int} {z : Int} (g : Good NK w.A) (h0 : 0 ≤ i) (h1 : i < m.ro1.length) : rSetL (.ref (w.A 4)) (.int i) (.int z) (kput a w m H) QH = QH (kput a w { m with ro1 := m.ro1.set i.toNat z } H) := by
  rw [g_set (kat_4 g), List.length_map, ixN_in h0 h1, x_someN, set_ints]
  exact congrArg QH (lay_set g rfl (by decide))
theorem kin_4 {k : Int} (g : Good NK w.A) : rInP (.int k) (.ref (w.A 4)) (kput a w m H) Q = Q (.bl (decide (k ∈ m.ro1))) (kput a w m H) := g_in (kat_4 g)
theorem kle_4 (g : Good NK w.A) : rLenP [.ref (w.A 4)] (kput a w m H) Q = Q (.int (m.ro1.length : Nat)) (kput a w m H) := (g_len (kat_4 g)).trans (by rw [List.length_map])
theorem ksl_4 {lo hi : Option Int} (g : Good NK w.A) : rSlP (.ref (w.A 4)) lo hi (kput a w m H) Q = ∀ p, kput a w m H p = none → Q (.ref p) (upd (kput a w m H) p (.lst (cutV (m.ro1.map V.int) lo hi))) := g_sl (kat_4 g)
theorem kap_4 {z : Int} (g : Good NK w.A) (h : m.ro1.length < sizeLine) : rAppend (.ref (w.A 4)) [.int z] (kput a w m H) Q = Q .non (kput a w { m with ro1 := m.ro1 ++ [z] } H) := by
  rw [g_app (kat_4 g) (by rw [List.length_map]; exact h), app_ints]
  exact congrArg (Q .non) (lay_set g rfl (by decide))
theorem kco_4 {k : Int} (g : Good NK w.A) : rCountP (.ref (w.A 4)) [.int k] (kput a w m H) Q = Q (.int (m.ro1.count k : Nat)) (kput a w m H) := g_count (kat_4 g)
theorem kat_5 (g : Good NK w.A) : kput a w m H (w.A 5) = some (.lst [.ref (w.A 3), .ref (w.A 4)]) := lay_at g rfl rfl
theorem kix_5 {i : Int} (g : Good NK w.A) : rIxP (.ref (w.A 5)) (.int i) (kput a w m H) Q = ∃ v, atI ([.ref (w.A 3), .ref (w.A 4)]) i = some v ∧ Q v (kput a w m H) := g_ix (kat_5 g)
theorem kty_5 (g : Good NK w.A) : tyV K "list" (.ref (w.A 5)) (kput a w m H) = True := eq_true (.inl ⟨rfl, _, SqL.of (kat_5 g)⟩)
def kmv (w : KW) (i : Nat) (q : Addr) : KW := { w with A := moved w.A i q }
theorem kmv_good {i : Nat} {q : Addr} (g : Good NK w.A) (h : Out NK w.A q) : Good NK (kmv w i q).A := moved_good g h
theorem klm_5_0 {q : Addr} (g : Good NK w.A) (h : Out NK w.A q) : rSetL (.ref (w.A 5)) (.int 0) (.ref q) (upd (kput a w m H) q (.lst [])) QH = QH (kput a (kmv w 3 q) { m with ro0 := [] } (upd H (w.A 3) (.lst (m.ro0.map V.int)))) := by
  have e : upd (kput a w m H) q (.lst []) = lay (kmv w 3 q).A ((kcells a w m).set 3 (.lst [])) 0 (upd H (w.A 3) (.lst (m.ro0.map V.int))) := lay_move g rfl (by decide) rfl h
  rw [e]
  have g2 : Good NK (kmv w 3 q).A := kmv_good g h
  rw [show w.A 5 = (kmv w 3 q).A 5 from rfl, g_set (lay_at (i := 5) g2 rfl rfl)]
  exact x_someN.trans (congrArg QH (lay_set g2 rfl (by decide)))
theorem klm_5_1 {q : Addr} (g : Good NK w.A) (h : Out NK w.A q) : rSetL (.ref (w.A 5)) (.int 1) (.ref q) (upd (kput a w m H) q (.lst [])) QH = QH (kput a (kmv w 4 q) { m with ro1 := [] } (upd H (w.A 4) (.lst (m.ro1.map V.int)))) := by
  have e : upd (kput a w m H) q (.lst []) = lay (kmv w 4 q).A ((kcells a w m).set 4 (.lst [])) 0 (upd H (w.A 4) (.lst (m.ro1.map V.int))) := lay_move g rfl (by decide) rfl h
  rw [e]
  have g2 : Good NK (kmv w 4 q).A := kmv_good g h
  rw [show w.A 5 = (kmv w 4 q).A 5 from rfl, g_set (lay_at (i := 5) g2 rfl rfl)]
  exact x_someN.trans (congrArg QH (lay_set g2 rfl (by decide)))
theorem kput_none {b : Addr} (g : Good NK w.A) (h : kput a w m H b = none) : Out NK w.A b ∧ H b = none := lay_none g rfl h
theorem kput_out {b : Addr} (h : Out NK w.A b) : kput a w m H b = H b := lay_out rfl h
theorem kput_upd {b : Addr} {o : HO} (g : Good NK w.A) (h : Out NK w.A b) : upd (kput a w m H) b o = kput a w m (upd H b o) := lay_upd g rfl h
end
end MK

/-! The mirror: each def as a function over the values, and its promise. -/
namespace MK
open PySem PySem.Spec PyProof.Rows L2

/-! ### the mirror -/
def lenOk (h e : Int) : Bool := if h < 60 then false else if 3600 < h then false else if e = 0 then true else if 60 ≤ e then decide (e ≤ 1800) else false
def lensOf (h e : Int) : List Int := if e = 0 then [h, h] else [h, h, e, e]
def allPlayed (m : M) : Bool := decide (m.played = (m.lens.length : Nat))
def clen (m : M) : Int := m.lens.getD m.played.toNat 0
def kickC (m : M) : Int × M := if m.running = true then (-16, m) else if allPlayed m = true then (-11, m) else (m.played + 1, { m with running := true, gone := 0, stood := 0 })
def tickC (m : M) (s : Int) (b : Bool) : Int × M := if s < 1 then (-22, m) else if 3600 < s then (-22, m) else if m.running = true then
    if 1000000 < m.gone + s then (-28, m) else (m.gone + s, { m with gone := m.gone + s, stood := if b = true then m.stood + s else m.stood })
  else (0, m)
def whistleC (m : M) : Int × M := if m.running = true then (if m.gone < clen m + m.stood then (-35, m) else (m.played + 1, { m with running := false, played := m.played + 1 })) else (-11, m)
def earl (m : M) : Int := (m.lens.take m.played.toNat).sum
def minC (m : M) : List Int := if m.running = true then (if m.gone - clen m < 0 then [0, (earl m + m.gone) / 60 + 1, 0] else [0, (earl m + clen m + 60 - 1) / 60, (m.gone - clen m) / 60 + 1]) else [-11]
def firstPl : List Int := (List.range 18).map fun k => if k < 11 then 1 else 2
def noBk : List Bool := List.replicate 18 false
def setPlay (m : M) (p : Int) : M := if p = 0 then { m with play := p, iw0 := false, iw1 := false } else { m with play := p }
def standing (m : M) : Bool := !decide (m.play = 0)
def pl (m : M) (t : Int) : List Int := if t = 0 then m.pl0 else m.pl1
def bk (m : M) (t : Int) : List Bool := if t = 0 then m.bk0 else m.bk1
def chs (m : M) (t : Int) : Int := if t = 0 then m.ch0 else m.ch1
def wis (m : M) (t : Int) : Int := if t = 0 then m.wi0 else m.wi1
def iws (m : M) (t : Int) : Bool := if t = 0 then m.iw0 else m.iw1
def scs (m : M) (t : Int) : Int := if t = 0 then m.sc0 else m.sc1
def setPl (m : M) (t p z : Int) : M := if t = 0 then { m with pl0 := m.pl0.set p.toNat z } else { m with pl1 := m.pl1.set p.toNat z }
def setBk (m : M) (t p : Int) : M := if t = 0 then { m with bk0 := m.bk0.set p.toNat true } else { m with bk1 := m.bk1.set p.toNat true }
/-- who is on, of the first n -/
def ponN (l : List Int) (n : Nat) : List Int := ((List.range n).filter fun k => decide (l.getD k 0 = 1)).map fun k : Nat => (k : Int)
def pon (m : M) (t : Int) : List Int := ponN (pl m t) 18
def bitsTo (ps : List Int) : Nat → Int
  | 0 => 0
  | n + 1 => if (n : Int) ∈ ps then bitsTo ps n + 2 ^ n else bitsTo ps n
def few (m : M) (t : Int) : Bool := decide (((pon m t).length : Nat) < (7 : Int))
def onF (m : M) (t : Int) : List Int := if 1 < t then [-22] else [((pon m t).length : Nat), bitsTo (pon m t) 18]
def cardF (m : M) (t p c : Int) : Int × M := if 1 < t then (-22, m) else if 18 ≤ p then (-22, m) else if 1 < c then (-22, m) else if (pl m t).getD p.toNat 0 = 4 then (-4, m) else
  if c = 0 then (if (bk m t).getD p.toNat false = true then (1, setPl m t p 4) else (0, setBk m t p)) else (1, setPl m t p 4)
def needsW (m : M) (t : Int) : Bool := if m.play = 1 then !iws m t else false
def changeR (m : M) (t o i : Int) (b : Bool) : Int := if 1 < t then -22 else if 18 ≤ o then -22 else if 18 ≤ i then -22 else if b = true then -16 else if standing m = true then
    (if (pl m t).getD o.toNat 0 = 1 then (if (pl m t).getD i.toNat 0 = 2 then (if chs m t = 5 then -28 else if needsW m t = true then (if wis m t = 3 then -29 else 0) else 0) else -62) else -61)
  else -16
def takeW (m : M) (t : Int) : M := if needsW m t = true then (if t = 0 then { m with iw0 := true, wi0 := m.wi0 + 1 } else { m with iw1 := true, wi1 := m.wi1 + 1 }) else m
def addCh (m : M) (t : Int) : M := if t = 0 then { m with ch0 := m.ch0 + 1 } else { m with ch1 := m.ch1 + 1 }
def addSc (m : M) (t : Int) : M := if t = 0 then { m with sc0 := m.sc0 + 1 } else { m with sc1 := m.sc1 + 1 }
def changeF (m : M) (t o i : Int) (b : Bool) : Int × M := if changeR m t o i b < 0 then (changeR m t o i b, m) else
  let n := addCh (setPl (setPl (takeW m t) t o 3) t i 1) t
  (5 - chs n t, n)
def goalF (m : M) (t p o : Int) : Int × M := if 1 < t then (-22, m) else if 18 ≤ p then (-22, m) else if 1 < o then (-22, m) else if standing m = true then (-16, m) else if (pl m t).getD p.toNat 0 = 1 then
    (let u := if o = 1 then 1 - t else t
     if scs m u = 1000000 then (-28, m) else (scs m u + 1, addSc m u))
  else (-61, m)
def kickG (m : M) : Int × M := if m.at_kicks = true then (-11, m) else if 0 < (kickC m).1 then ((kickC m).1, setPlay (kickC m).2 0) else kickC m
def tickG (m : M) (s : Int) : Int × M := tickC m s (standing m)
def stopG (m : M) (s : Int) : Int × M := if 1 < s then (-22, m) else if m.running = true then (if standing m = decide (s = 1) then (-16, m) else (0, setPlay m (if s = 1 then 1 else 0))) else (-11, m)
def settle (m : M) : M := if m.played % 2 = 1 then m else if m.sc0 = m.sc1 then (if allPlayed m = true then { m with at_kicks := true } else m) else { m with winner := if m.sc1 < m.sc0 then 1 else 2 }
def whistleG (m : M) : Int × M := if 0 < (whistleC m).1 then ((whistleC m).1, settle (setPlay (whistleC m).2 2)) else whistleC m
def cardG (m : M) (t p c : Int) : Int × M := if (cardF m t p c).1 = 1 then (if few (cardF m t p c).2 t = true then (1, { (cardF m t p c).2 with winner := 1 - t + 1 }) else (1, (cardF m t p c).2)) else cardF m t p c
def changeG (m : M) (t o i : Int) : Int × M := changeF m t o i m.at_kicks
def M0 (h e : Int) : M := { lens := lensOf h e, played := 0, running := false, gone := 0, stood := 0, pl0 := firstPl, pl1 := firstPl, bk0 := noBk, bk1 := noBk, play := 2, ch0 := 0, ch1 := 0, wi0 := 0, wi1 := 0, iw0 := false, iw1 := false, sc0 := 0, sc1 := 0, at_kicks := false, winner := 0 }
/-! kicks -/
def KM0 (t : Int) : KM := { turn := t, tk0 := 0, tk1 := 0, hi0 := 0, hi1 := 0, ro0 := [], ro1 := [] }
def rnd (k : KM) (t : Int) : List Int := if t = 0 then k.ro0 else k.ro1
def tks (k : KM) (t : Int) : Int := if t = 0 then k.tk0 else k.tk1
def his (k : KM) (t : Int) : Int := if t = 0 then k.hi0 else k.hi1
def roundDone (k : KM) (ps : List Int) : Bool := (ps.map fun p => decide (p ∈ rnd k k.turn)).all id
def mustWait (k : KM) (p : Int) (ps : List Int) : Bool := if p ∈ rnd k k.turn then !roundDone k ps else false
def clearR (k : KM) (t : Int) : KM := if t = 0 then { k with ro0 := [] } else { k with ro1 := [] }
def pushK (k : KM) (t p s : Int) : KM := if t = 0 then { k with ro0 := k.ro0 ++ [p], tk0 := k.tk0 + 1, hi0 := k.hi0 + s, turn := 1 - t } else { k with ro1 := k.ro1 ++ [p], tk1 := k.tk1 + 1, hi1 := k.hi1 + s, turn := 1 - t }
def takeK (k : KM) (p s : Int) (ps : List Int) : KM := pushK (if roundDone k ps = true then clearR k k.turn else k) k.turn p s
def leftK (k : KM) (t : Int) : Int := if (if k.tk1 < k.tk0 then k.tk1 else k.tk0) < 5 then 5 - tks k t else if 0 > tks k (1 - t) - tks k t then 0 else tks k (1 - t) - tks k t
def decidedK (k : KM) : Int := if k.hi1 + leftK k 1 < k.hi0 then 1 else if k.hi0 + leftK k 0 < k.hi1 then 2 else 0
def firstG (m : M) (k : Option KM) (t : Int) : Int × M × Option KM := if 1 < t then (-22, m, k) else if m.at_kicks = true then (match k with | some q => (-16, m, some q) | none => (0, m, some (KM0 t))) else (-11, m, k)
def shootR (m : M) (k : Option KM) (t p s : Int) : Int := if 1 < t then -22 else if 18 ≤ p then -22 else if 1 < s then -22 else match k with
  | none => -11
  | some q => if q.turn = t then (if (pl m t).getD p.toNat 0 = 1 then (if mustWait q p (pon m t) = true then -17 else if q.tk0 + q.tk1 = 1000000 then -28 else 0) else -61) else -37
def shootG (m : M) (k : Option KM) (t p s : Int) : Int × M × Option KM := if shootR m k t p s < 0 then (shootR m k t p s, m, k) else match k with
  | none => (0, m, none)
  | some q => (decidedK (takeK q p s (pon m t)), { m with winner := decidedK (takeK q p s (pon m t)) }, some (takeK q p s (pon m t)))
/-- the lists have their lengths -/
structure Wf (m : M) : Prop where
  p0 : m.pl0.length = 18
  p1 : m.pl1.length = 18
  b0 : m.bk0.length = 18
  b1 : m.bk1.length = 18
  p : 0 ≤ m.played
  r : m.running = true → m.played < m.lens.length
structure WfK (k : KM) : Prop where
  t : k.turn = 0 ∨ k.turn = 1
  r0 : (k.ro0.length : Int) ≤ k.tk0
  r1 : (k.ro1.length : Int) ≤ k.tk1
  s : k.tk0 + k.tk1 ≤ 1000000
def WfO (k : Option KM) : Prop := ∀ q, k = some q → WfK q

/-! ### the promises -/
/-- what lay elsewhere lies there still, elsewhere -/
def ExtN (n : Nat) (A : Nat → Addr) (H : Hp) (A' : Nat → Addr) (H' : Hp) : Prop := ∀ b o, H b = some o → Out n A b → H' b = some o ∧ Out n A' b
abbrev Ext (w : Wd) (H : Hp) (w' : Wd) (H' : Hp) : Prop := ExtN NC w.A H w'.A H'
abbrev KExt (w : KW) (H : Hp) (w' : KW) (H' : Hp) : Prop := ExtN NK w.A H w'.A H'
section
variable {n : Nat} {A A' A'' : Nat → Addr} {H H' H'' : Hp}
theorem ExtN.refl : ExtN n A H A H := fun b o h u => ⟨h, u⟩
theorem ExtN.move {i : Nat} {q : Addr} {u : HO} (hi : i < n) (h0 : H q = none) : ExtN n A H (moved A i q) (upd H (A i) u) := fun b o h x => by
  refine ⟨by rw [upd_ne (x i hi)]; exact h, fun j hj => ?_⟩
  by_cases e : j = i
  · subst e
    show b ≠ moved A j q j
    rw [show moved A j q j = q from if_pos rfl]
    exact ne_of_none h h0
  · show b ≠ moved A i q j
    rw [show moved A i q j = A j from if_neg e]
    exact x j hj
theorem ExtN.trans (x : ExtN n A H A' H') (y : ExtN n A' H' A'' H'') : ExtN n A H A'' H'' := fun b o h u => y b o (x b o h u).1 (x b o h u).2
theorem ExtN.alloc {p : Addr} {u : HO} (h0 : H p = none) : ExtN n A H A (upd H p u) := fun b o h x => ⟨by rw [upd_ne (ne_of_none h h0)]; exact h, x⟩
end
/-- behind a call that leaves the match (m' then), where its lists may lie elsewhere -/
def Aft (a : Ad) (w : Wd) (H0 : Hp) (Q : VK) (v : V) (m' : M) : Prop := ∀ w' H0', Good NC w'.A → Ext w H0 w' H0' → w'.A 0 = w.A 0 → w'.kv = w.kv → Q v (put a w' m' H0')
theorem Aft.here {a : Ad} {w : Wd} {H0 : Hp} {Q : VK} {v : V} {m' : M} (h : Aft a w H0 Q v m') (g : Good NC w.A) : Q v (put a w m' H0) := h w H0 g ExtN.refl rfl rfl
/-- behind a call that gives back a new list -/
def New (a : Ad) (w : Wd) (H0 : Hp) (Q : VK) (m : M) (ns : List Int) : Prop := ∀ p H0', Ext w H0 w H0' → H0 p = none → H0' p = some (.lst (ns.map V.int)) → Out NC w.A p → Q (.ref p) (put a w m H0')

def sp_lengths_allowed (K : PySem.W.Frag) (a : Ad) : Sp := fun vs H Q _ => ∃ h e, vs = [.int h, .int e] ∧ Q (.bl (lenOk h e)) H
def sp_minutes_rounded_up (K : PySem.W.Frag) (a : Ad) : Sp := fun vs H Q _ => ∃ s, vs = [.int s] ∧ Q (.int ((s + 60 - 1) / 60)) H
def clockFs (l : Addr) (pl : Int) (ru : Bool) (go so : Int) : List (Str × V) := [("lengths", .ref l), ("played", .int pl), ("running", .bl ru), ("gone", .int go), ("stood", .int so)]
def sp_Clock_init (K : PySem.W.Frag) (a : Ad) : Sp := fun vs H Q _ => ∃ p dx h e, vs = [.ref p, .int h, .int e] ∧ H p = some (.ins a.c_Clock dx []) ∧ ∀ l, H l = none → Q .non (upd (upd H l (.lst ((lensOf h e).map V.int))) p (.ins a.c_Clock dx (clockFs l 0 false 0 0)))
def sp_Clock_all_played (K : PySem.W.Frag) (a : Ad) : Sp := fun vs H Q _ => ∃ w m H0, Good NC w.A ∧ H = put a w m H0 ∧ vs = [.ref (w.A 1)] ∧ Q (.bl (allPlayed m)) (put a w m H0)
def sp_Clock_length (K : PySem.W.Frag) (a : Ad) : Sp := fun vs H Q _ => ∃ w m H0, Good NC w.A ∧ 0 ≤ m.played ∧ m.played < m.lens.length ∧ H = put a w m H0 ∧ vs = [.ref (w.A 1)] ∧ Q (.int (clen m)) (put a w m H0)
def sp_Clock_kick (K : PySem.W.Frag) (a : Ad) : Sp := fun vs H Q _ => ∃ w m H0, Good NC w.A ∧ H = put a w m H0 ∧ vs = [.ref (w.A 1)] ∧ Q (.int (kickC m).1) (put a w (kickC m).2 H0)
def sp_Clock_tick (K : PySem.W.Frag) (a : Ad) : Sp := fun vs H Q _ => ∃ w m H0 s b, Good NC w.A ∧ H = put a w m H0 ∧ vs = [.ref (w.A 1), .int s, .bl b] ∧ Q (.int (tickC m s b).1) (put a w (tickC m s b).2 H0)
def sp_Clock_whistle (K : PySem.W.Frag) (a : Ad) : Sp := fun vs H Q _ => ∃ w m H0, Good NC w.A ∧ Wf m ∧ H = put a w m H0 ∧ vs = [.ref (w.A 1)] ∧ Q (.int (whistleC m).1) (put a w (whistleC m).2 H0)
def sp_Clock_minute (K : PySem.W.Frag) (a : Ad) : Sp := fun vs H Q _ => ∃ w m H0, Good NC w.A ∧ Wf m ∧ H = put a w m H0 ∧ vs = [.ref (w.A 1)] ∧ New a w H0 Q m (minC m)
def sp_other (K : PySem.W.Frag) (a : Ad) : Sp := fun vs H Q _ => ∃ t, vs = [.int t] ∧ Q (.int (1 - t)) H
def sp_won_by (K : PySem.W.Frag) (a : Ad) : Sp := fun vs H Q _ => ∃ t, vs = [.int t] ∧ Q (.int (t + 1)) H
def sp_first_places (K : PySem.W.Frag) (a : Ad) : Sp := fun vs H Q _ => vs = [] ∧ ∀ p, H p = none → Q (.ref p) (upd H p (.lst (firstPl.map V.int)))
def sp_as_bits (K : PySem.W.Frag) (a : Ad) : Sp := fun vs H Q _ => ∃ l ps, vs = [.ref l] ∧ H l = some (.lst (List.map V.int ps)) ∧ Q (.int (bitsTo ps 18)) H
def fieldCs (a : Ad) (dx : Addr) (A : Nat → Addr) : List HO := [
  .ins a.c_Field dx [("places", .ref (A 3)), ("booked", .ref (A 8)), ("play", .int 2), ("changes", .ref (A 9)), ("windows", .ref (A 10)), ("in_window", .ref (A 11)), ("scored", .ref (A 12))],
  .lst (firstPl.map V.int), .lst (firstPl.map V.int), .lst [.ref (A 1), .ref (A 2)], .lst [.bl false], .lst (noBk.map V.bl), .lst [.bl false], .lst (noBk.map V.bl), .lst [.ref (A 5), .ref (A 7)],
  .lst [.int 0, .int 0], .lst [.int 0, .int 0], .lst [.bl false, .bl false], .lst [.int 0, .int 0]]
def sp_Field_init (K : PySem.W.Frag) (a : Ad) : Sp := fun vs H Q _ => ∃ p dx, vs = [.ref p] ∧ H p = some (.ins a.c_Field dx []) ∧
  ∀ A : Nat → Addr, Good 13 A → A 0 = p → (∀ i, 0 < i → i < 13 → H (A i) = none) → Q .non (lay A (fieldCs a dx A) 0 H)
def sp_Field_set_play (K : PySem.W.Frag) (a : Ad) : Sp := fun vs H Q _ => ∃ w m H0 p, Good NC w.A ∧ H = put a w m H0 ∧ vs = [.ref (w.A 2), .int p] ∧ ∀ w' H0', Good NC w'.A → Ext w H0 w' H0' → w'.A 0 = w.A 0 → w'.A 1 = w.A 1 → w'.A 2 = w.A 2 → w'.kv = w.kv → Q .non (put a w' (setPlay m p) H0')
def sp_Field_is_standing (K : PySem.W.Frag) (a : Ad) : Sp := fun vs H Q _ => ∃ w m H0, Good NC w.A ∧ H = put a w m H0 ∧ vs = [.ref (w.A 2)] ∧ Q (.bl (standing m)) (put a w m H0)
def sp_Field_is_on (K : PySem.W.Frag) (a : Ad) : Sp := fun vs H Q _ => ∃ w m H0 t p, Good NC w.A ∧ Wf m ∧ H = put a w m H0 ∧ vs = [.ref (w.A 2), .int t, .int p] ∧ (t = 0 ∨ t = 1) ∧ 0 ≤ p ∧ p < 18 ∧ Q (.bl (decide ((pl m t).getD p.toNat 0 = 1))) (put a w m H0)
def sp_Field_players_on (K : PySem.W.Frag) (a : Ad) : Sp := fun vs H Q _ => ∃ w m H0 t, Good NC w.A ∧ Wf m ∧ H = put a w m H0 ∧ vs = [.ref (w.A 2), .int t] ∧ (t = 0 ∨ t = 1) ∧ ∀ p, H0 p = none → Out NC w.A p → Q (.ref p) (put a w m (upd H0 p (.lst ((pon m t).map V.int))))
def sp_Field_too_few (K : PySem.W.Frag) (a : Ad) : Sp := fun vs H Q _ => ∃ w m H0 t, Good NC w.A ∧ Wf m ∧ H = put a w m H0 ∧ vs = [.ref (w.A 2), .int t] ∧ (t = 0 ∨ t = 1) ∧ ∀ H0', Ext w H0 w H0' → Q (.bl (few m t)) (put a w m H0')
def sp_Field_on (K : PySem.W.Frag) (a : Ad) : Sp := fun vs H Q _ => ∃ w m H0 t, Good NC w.A ∧ Wf m ∧ H = put a w m H0 ∧ vs = [.ref (w.A 2), .int t] ∧ 0 ≤ t ∧ New a w H0 Q m (onF m t)
def sp_Field_card (K : PySem.W.Frag) (a : Ad) : Sp := fun vs H Q _ => ∃ w m H0 t p c, Good NC w.A ∧ Wf m ∧ H = put a w m H0 ∧ vs = [.ref (w.A 2), .int t, .int p, .int c] ∧ 0 ≤ t ∧ 0 ≤ p ∧ 0 ≤ c ∧ Q (.int (cardF m t p c).1) (put a w (cardF m t p c).2 H0)
def sp_Field_needs_window (K : PySem.W.Frag) (a : Ad) : Sp := fun vs H Q _ => ∃ w m H0 t, Good NC w.A ∧ H = put a w m H0 ∧ vs = [.ref (w.A 2), .int t] ∧ (t = 0 ∨ t = 1) ∧ Q (.bl (needsW m t)) (put a w m H0)
def sp_Field_change_refusal (K : PySem.W.Frag) (a : Ad) : Sp := fun vs H Q _ => ∃ w m H0 t o i b, Good NC w.A ∧ Wf m ∧ H = put a w m H0 ∧ vs = [.ref (w.A 2), .int t, .int o, .int i, .bl b] ∧ 0 ≤ t ∧ 0 ≤ o ∧ 0 ≤ i ∧ Q (.int (changeR m t o i b)) (put a w m H0)
def sp_Field_take_window (K : PySem.W.Frag) (a : Ad) : Sp := fun vs H Q _ => ∃ w m H0 t, Good NC w.A ∧ H = put a w m H0 ∧ vs = [.ref (w.A 2), .int t] ∧ (t = 0 ∨ t = 1) ∧ Q .non (put a w (takeW m t) H0)
def sp_Field_change (K : PySem.W.Frag) (a : Ad) : Sp := fun vs H Q _ => ∃ w m H0 t o i b, Good NC w.A ∧ Wf m ∧ H = put a w m H0 ∧ vs = [.ref (w.A 2), .int t, .int o, .int i, .bl b] ∧ 0 ≤ t ∧ 0 ≤ o ∧ 0 ≤ i ∧ Q (.int (changeF m t o i b).1) (put a w (changeF m t o i b).2 H0)
def sp_Field_goal (K : PySem.W.Frag) (a : Ad) : Sp := fun vs H Q _ => ∃ w m H0 t p o, Good NC w.A ∧ Wf m ∧ H = put a w m H0 ∧ vs = [.ref (w.A 2), .int t, .int p, .int o] ∧ 0 ≤ t ∧ 0 ≤ p ∧ 0 ≤ o ∧ Q (.int (goalF m t p o).1) (put a w (goalF m t p o).2 H0)
/-! kicks -/
def sp_Kicks_init (K : PySem.W.Frag) (a : Ad) : Sp := fun vs H Q _ => ∃ p dx t, vs = [.ref p, .int t] ∧ H p = some (.ins a.c_Kicks dx []) ∧
  ∀ wk : KW, Good NK wk.A → wk.A 0 = p → (∀ i, 0 < i → i < NK → H (wk.A i) = none) → Q .non (kput a wk (KM0 t) H)
def sp_Kicks_all_taken (K : PySem.W.Frag) (a : Ad) : Sp := fun vs H Q _ => ∃ w m H0, Good NK w.A ∧ H = kput a w m H0 ∧ vs = [.ref (w.A 0)] ∧ Q (.bl (decide (m.tk0 + m.tk1 = 1000000))) (kput a w m H0)
def sp_Kicks_round_is_done (K : PySem.W.Frag) (a : Ad) : Sp := fun vs H Q _ => ∃ w m H0 l ps, Good NK w.A ∧ (m.turn = 0 ∨ m.turn = 1) ∧ H = kput a w m H0 ∧ vs = [.ref (w.A 0), .ref l] ∧ Out NK w.A l ∧ H0 l = some (.lst (List.map V.int ps)) ∧ ps.length ≤ 18 ∧ ∀ H0', KExt w H0 w H0' → Q (.bl (roundDone m ps)) (kput a w m H0')
def sp_Kicks_must_wait (K : PySem.W.Frag) (a : Ad) : Sp := fun vs H Q _ => ∃ w m H0 p l ps, Good NK w.A ∧ (m.turn = 0 ∨ m.turn = 1) ∧ H = kput a w m H0 ∧ vs = [.ref (w.A 0), .int p, .ref l] ∧ Out NK w.A l ∧ H0 l = some (.lst (List.map V.int ps)) ∧ ps.length ≤ 18 ∧ ∀ H0', KExt w H0 w H0' → Q (.bl (mustWait m p ps)) (kput a w m H0')
def sp_Kicks_left (K : PySem.W.Frag) (a : Ad) : Sp := fun vs H Q _ => ∃ w m H0 t, Good NK w.A ∧ H = kput a w m H0 ∧ vs = [.ref (w.A 0), .int t] ∧ (t = 0 ∨ t = 1) ∧ Q (.int (leftK m t)) (kput a w m H0)
def sp_Kicks_decided_for (K : PySem.W.Frag) (a : Ad) : Sp := fun vs H Q _ => ∃ w m H0, Good NK w.A ∧ H = kput a w m H0 ∧ vs = [.ref (w.A 0)] ∧ ∀ H0', KExt w H0 w H0' → Q (.int (decidedK m)) (kput a w m H0')
def sp_Kicks_take (K : PySem.W.Frag) (a : Ad) : Sp := fun vs H Q _ => ∃ w m H0 p s l ps, Good NK w.A ∧ WfK m ∧ H = kput a w m H0 ∧ vs = [.ref (w.A 0), .int p, .int s, .ref l] ∧ Out NK w.A l ∧ H0 l = some (.lst (List.map V.int ps)) ∧ ps.length ≤ 18 ∧
  ∀ w' H0', Good NK w'.A → KExt w H0 w' H0' → w'.A 0 = w.A 0 → Q (.int (decidedK (takeK m p s ps))) (kput a w' (takeK m p s ps) H0')
/-! the match -/
def sp_Game_init (K : PySem.W.Frag) (a : Ad) : Sp := fun vs H Q _ => ∃ p dx h e, vs = [.ref p, .int h, .int e] ∧ H p = some (.ins a.c_Game dx []) ∧
  ∀ w H0', Good NC w.A → w.A 0 = p → w.kv = .non → (∀ b o, H b = some o → b ≠ p → H0' b = some o ∧ Out NC w.A b) → Q .non (put a w (M0 h e) H0')
def sp_Game_kick (K : PySem.W.Frag) (a : Ad) : Sp := fun vs H Q _ => ∃ w m H0, Good NC w.A ∧ H = put a w m H0 ∧ vs = [.ref (w.A 0)] ∧ Aft a w H0 Q (.int (kickG m).1) (kickG m).2
def sp_Game_tick (K : PySem.W.Frag) (a : Ad) : Sp := fun vs H Q _ => ∃ w m H0 s, Good NC w.A ∧ H = put a w m H0 ∧ vs = [.ref (w.A 0), .int s] ∧ Q (.int (tickG m s).1) (put a w (tickG m s).2 H0)
def sp_Game_stop (K : PySem.W.Frag) (a : Ad) : Sp := fun vs H Q _ => ∃ w m H0 s, Good NC w.A ∧ H = put a w m H0 ∧ vs = [.ref (w.A 0), .int s] ∧ Aft a w H0 Q (.int (stopG m s).1) (stopG m s).2
def sp_Game_settle (K : PySem.W.Frag) (a : Ad) : Sp := fun vs H Q _ => ∃ w m H0, Good NC w.A ∧ H = put a w m H0 ∧ vs = [.ref (w.A 0)] ∧ Q .non (put a w (settle m) H0)
def sp_Game_whistle (K : PySem.W.Frag) (a : Ad) : Sp := fun vs H Q _ => ∃ w m H0, Good NC w.A ∧ Wf m ∧ H = put a w m H0 ∧ vs = [.ref (w.A 0)] ∧ Aft a w H0 Q (.int (whistleG m).1) (whistleG m).2
def sp_Game_card (K : PySem.W.Frag) (a : Ad) : Sp := fun vs H Q _ => ∃ w m H0 t p c, Good NC w.A ∧ Wf m ∧ H = put a w m H0 ∧ vs = [.ref (w.A 0), .int t, .int p, .int c] ∧ 0 ≤ t ∧ 0 ≤ p ∧ 0 ≤ c ∧ Aft a w H0 Q (.int (cardG m t p c).1) (cardG m t p c).2
def sp_Game_change (K : PySem.W.Frag) (a : Ad) : Sp := fun vs H Q _ => ∃ w m H0 t o i, Good NC w.A ∧ Wf m ∧ H = put a w m H0 ∧ vs = [.ref (w.A 0), .int t, .int o, .int i] ∧ 0 ≤ t ∧ 0 ≤ o ∧ 0 ≤ i ∧ Q (.int (changeG m t o i).1) (put a w (changeG m t o i).2 H0)
def sp_Game_goal (K : PySem.W.Frag) (a : Ad) : Sp := fun vs H Q _ => ∃ w m H0 t p o, Good NC w.A ∧ Wf m ∧ H = put a w m H0 ∧ vs = [.ref (w.A 0), .int t, .int p, .int o] ∧ 0 ≤ t ∧ 0 ≤ p ∧ 0 ≤ o ∧ Q (.int (goalF m t p o).1) (put a w (goalF m t p o).2 H0)
def sp_Game_score (K : PySem.W.Frag) (a : Ad) : Sp := fun vs H Q _ => ∃ w m H0, Good NC w.A ∧ H = put a w m H0 ∧ vs = [.ref (w.A 0)] ∧ New a w H0 Q m [m.played, m.sc0, m.sc1]
def sp_Game_on (K : PySem.W.Frag) (a : Ad) : Sp := fun vs H Q _ => ∃ w m H0 t, Good NC w.A ∧ Wf m ∧ H = put a w m H0 ∧ vs = [.ref (w.A 0), .int t] ∧ 0 ≤ t ∧ New a w H0 Q m (onF m t)
def sp_Game_minute (K : PySem.W.Frag) (a : Ad) : Sp := fun vs H Q _ => ∃ w m H0, Good NC w.A ∧ Wf m ∧ H = put a w m H0 ∧ vs = [.ref (w.A 0)] ∧ New a w H0 Q m (minC m)
/-! the match with its kicks: what U names lies apart from it -/
def KIs (a : Ad) (w : Wd) (U : Addr → Prop) (k : Option KM) (H0 : Hp) : Prop := match k with
  | none => w.kv = .non
  | some q => ∃ wk : KW, w.kv = .ref (wk.A 0) ∧ Good NK wk.A ∧ (∀ i, i < NK → Out NC w.A (wk.A i)) ∧ (∀ i, i < NK → H0 (wk.A i) = (kcells a wk q)[i]?) ∧ ∀ b, U b → Out NK wk.A b
def GIs (a : Ad) (U : Addr → Prop) (g : Addr) (m : M) (k : Option KM) (H : Hp) : Prop := ∃ w H0, w.A 0 = g ∧ Good NC w.A ∧ H = put a w m H0 ∧ (∀ b, U b → Out NC w.A b ∧ H0 b ≠ none) ∧ KIs a w U k H0
def Keep (U : Addr → Prop) (H H' : Hp) : Prop := ∀ b o, U b → H b = some o → H' b = some o
def sp_Game_first (K : PySem.W.Frag) (a : Ad) : Sp := fun vs H Q _ => ∃ U g m k t, GIs a U g m k H ∧ vs = [.ref g, .int t] ∧ 0 ≤ t ∧ ∀ H', GIs a U g (firstG m k t).2.1 (firstG m k t).2.2 H' → Keep U H H' → Q (.int (firstG m k t).1) H'
def sp_Game_shoot_refusal (K : PySem.W.Frag) (a : Ad) : Sp := fun vs H Q _ => ∃ U g m k t p s, GIs a U g m k H ∧ Wf m ∧ WfO k ∧ vs = [.ref g, .int t, .int p, .int s] ∧ 0 ≤ t ∧ 0 ≤ p ∧ 0 ≤ s ∧ ∀ H', GIs a U g m k H' → Keep U H H' → Q (.int (shootR m k t p s)) H'
def sp_Game_shoot (K : PySem.W.Frag) (a : Ad) : Sp := fun vs H Q _ => ∃ U g m k t p s, GIs a U g m k H ∧ Wf m ∧ WfO k ∧ vs = [.ref g, .int t, .int p, .int s] ∧ 0 ≤ t ∧ 0 ≤ p ∧ 0 ≤ s ∧
  ∀ H', GIs a U g (shootG m k t p s).2.1 (shootG m k t p s).2.2 H' → Keep U H H' → Q (.int (shootG m k t p s).1) H'
/-- one call that may change a match -/
def ansG (m : M) (k : Option KM) (c : Int) (xs : List Int) : Int × M × Option KM :=
  if c = 1 then ((kickG m).1, (kickG m).2, k)
  else if c = 2 then ((tickG m (xs.getD 0 0)).1, (tickG m (xs.getD 0 0)).2, k)
  else if c = 3 then ((stopG m (xs.getD 0 0)).1, (stopG m (xs.getD 0 0)).2, k)
  else if c = 4 then ((whistleG m).1, (whistleG m).2, k)
  else if c = 5 then ((cardG m (xs.getD 0 0) (xs.getD 1 0) (xs.getD 2 0)).1, (cardG m (xs.getD 0 0) (xs.getD 1 0) (xs.getD 2 0)).2, k)
  else if c = 6 then ((changeG m (xs.getD 0 0) (xs.getD 1 0) (xs.getD 2 0)).1, (changeG m (xs.getD 0 0) (xs.getD 1 0) (xs.getD 2 0)).2, k)
  else if c = 7 then ((goalF m (xs.getD 0 0) (xs.getD 1 0) (xs.getD 2 0)).1, (goalF m (xs.getD 0 0) (xs.getD 1 0) (xs.getD 2 0)).2, k)
  else if c = 8 then firstG m k (xs.getD 0 0)
  else shootG m k (xs.getD 0 0) (xs.getD 1 0) (xs.getD 2 0)
/-- one call on a match that is there: the numbers, and what it is then -/
def numsG (m : M) (k : Option KM) (c : Int) (xs : List Int) : List Int × M × Option KM :=
  if c = 10 then ([m.played, m.sc0, m.sc1], m, k)
  else if c = 11 then (onF m (xs.getD 0 0), m, k)
  else if c = 12 then (minC m, m, k)
  else if c = 13 then ([m.winner], m, k)
  else if m.winner = 0 then ([(ansG m k c xs).1], (ansG m k c xs).2)
  else ([-41], m, k)
def okAns (c : Int) (xs : List Int) : Prop := (∀ x ∈ xs, 0 ≤ x) ∧ ((c = 1 ∧ xs.length = 0) ∨ (c = 2 ∧ xs.length = 1) ∨ (c = 3 ∧ xs.length = 1) ∨ (c = 4 ∧ xs.length = 0) ∨ (c = 5 ∧ xs.length = 3) ∨ (c = 6 ∧ xs.length = 3) ∨ (c = 7 ∧ xs.length = 3) ∨ (c = 8 ∧ xs.length = 1) ∨ (c = 9 ∧ xs.length = 3))
def okCall (c : Int) (xs : List Int) : Prop := okAns c xs ∨ ((∀ x ∈ xs, 0 ≤ x) ∧ ((c = 10 ∧ xs.length = 0) ∨ (c = 11 ∧ xs.length = 1) ∨ (c = 12 ∧ xs.length = 0) ∨ (c = 13 ∧ xs.length = 0)))
def sp_answer_of (K : PySem.W.Frag) (a : Ad) : Sp := fun vs H Q _ => ∃ U g m k c h xs, GIs a U g m k H ∧ Wf m ∧ WfO k ∧ U h ∧ H h = some (.lst (List.map V.int xs)) ∧ vs = [.ref g, .int c, .ref h] ∧ okAns c xs ∧
  ∀ H', GIs a U g (ansG m k c xs).2.1 (ansG m k c xs).2.2 H' → Keep U H H' → Q (.int (ansG m k c xs).1) H'
def sp_numbers_of (K : PySem.W.Frag) (a : Ad) : Sp := fun vs H Q _ => ∃ U g m k c h xs, GIs a U g m k H ∧ Wf m ∧ WfO k ∧ U h ∧ H h = some (.lst (List.map V.int xs)) ∧ vs = [.ref g, .int c, .ref h] ∧ okCall c xs ∧
  ∀ p H', GIs a U g (numsG m k c xs).2.1 (numsG m k c xs).2.2 H' → Keep U H H' → ¬ U p → H' p = some (.lst ((numsG m k c xs).1.map V.int)) → Q (.ref p) H'
/-- the program's runs: from a state, over a list of calls, what is answered -/
inductive Runs : Option (M × Option KM) → List Int → List Int → Prop
  | nil {s : Option (M × Option KM)} : Runs s [] []
  | start {s : Option (M × Option KM)} {h e : Int} {rest out : List Int} : Runs (if lenOk h e = true then some (M0 h e, none) else s) rest out → Runs s (0 :: ([h, e] ++ rest)) (1 :: (if lenOk h e = true then 0 else -22) :: out)
  | call {m : M} {k : Option KM} {c : Int} {xs rest out : List Int} : Wf m → WfO k → okCall c xs → Runs (some (numsG m k c xs).2) rest out → Runs (some (m, k)) (c :: (xs ++ rest)) (((numsG m k c xs).1.length : Nat) :: ((numsG m k c xs).1 ++ out))
def sp_answers (K : PySem.W.Frag) (a : Ad) : Sp := fun vs H Q _ => ∃ l ns out, vs = [.ref l] ∧ SqL K H l (ns.map V.int) ∧ ns.length ≤ 30000 ∧ Runs none ns out ∧ ∀ b H', H' b = some (.lst (out.map V.int)) → Q (.ref b) H'

/-! ### the match that is there, and what lies beside it -/
theorem put_self {a : Ad} {w : Wd} {m : M} {H : Hp} (g : Good NC w.A) (h : ∀ i, i < NC → H (w.A i) = (cells a w m)[i]?) : H = put a w m H := lay_self g rfl h
theorem kput_self {a : Ad} {w : KW} {m : KM} {H : Hp} (g : Good NK w.A) (h : ∀ i, i < NK → H (w.A i) = (kcells a w m)[i]?) : H = kput a w m H := lay_self g rfl h
theorem put_cell {a : Ad} {w : Wd} {m : M} {H : Hp} (g : Good NC w.A) {i : Nat} (h : i < NC) : put a w m H (w.A i) = (cells a w m)[i]? := by
  have e : (cells a w m)[i]? = some (cells a w m)[i] := List.getElem?_eq_getElem h
  rw [e]
  exact lay_at g rfl e
theorem kput_cell {a : Ad} {w : KW} {m : KM} {H : Hp} (g : Good NK w.A) {i : Nat} (h : i < NK) : kput a w m H (w.A i) = (kcells a w m)[i]? := by
  have e : (kcells a w m)[i]? = some (kcells a w m)[i] := List.getElem?_eq_getElem h
  rw [e]
  exact lay_at g rfl e
section
variable {a : Ad} {U U' : Addr → Prop} {g : Addr} {m m' : M} {k : Option KM} {H : Hp} {w w' : Wd} {H0 H0' : Hp}
theorem KIs.ext (h : KIs a w U k H0) (x : Ext w H0 w' H0') (e : w'.kv = w.kv) : KIs a w' U k H0' := by
  cases k with
  | none => exact e.trans h
  | some q =>
    obtain ⟨wk, h1, h2, h3, h4, h5⟩ := h
    have c : ∀ i, i < NK → H0' (wk.A i) = (kcells a wk q)[i]? ∧ Out NC w'.A (wk.A i) := fun i hi => by
      have e : (kcells a wk q)[i]? = some (kcells a wk q)[i] := List.getElem?_eq_getElem hi
      rw [e]
      exact x _ _ ((h4 i hi).trans e) (h3 i hi)
    exact ⟨wk, e.trans h1, h2, fun i hi => (c i hi).2, fun i hi => (c i hi).1, h5⟩
theorem GIs.step (gw : w'.A 0 = g) (g' : Good NC w'.A) (hU : ∀ b, U b → Out NC w.A b ∧ H0 b ≠ none) (h : KIs a w U k H0) (x : Ext w H0 w' H0') (e : w'.kv = w.kv) :
    GIs a U g m' k (put a w' m' H0') ∧ Keep U (put a w m H0) (put a w' m' H0') := by
  refine ⟨⟨w', H0', gw, g', rfl, fun b hb => ?_, h.ext x e⟩, fun b o hb hh => ?_⟩
  · obtain ⟨o1, o2⟩ := hU b hb
    cases q : H0 b with
    | none => exact absurd q o2
    | some o =>
      obtain ⟨x1, x2⟩ := x b o q o1
      exact ⟨x2, by rw [x1]; simp⟩
  · obtain ⟨o1, o2⟩ := hU b hb
    rw [put_out o1] at hh
    obtain ⟨x1, x2⟩ := x b o hh o1
    rw [put_out x2]
    exact x1
theorem KIs.weaken (h : KIs a w U k H0) (hE : ∀ b, U' b → U b) : KIs a w U' k H0 := by
  cases k with
  | none => exact h
  | some q =>
    obtain ⟨wk, h1, h2, h3, h4, h5⟩ := h
    exact ⟨wk, h1, h2, h3, h4, fun b hb => h5 b (hE b hb)⟩
theorem GIs.weaken (h : GIs a U g m k H) (hE : ∀ b, U' b → U b) : GIs a U' g m k H := by
  obtain ⟨w, H0, e, gd, eH, o, K⟩ := h
  exact ⟨w, H0, e, gd, eH, fun b hb => o b (hE b hb), K.weaken hE⟩
theorem GIs.alloc {p : Addr} {o : HO} (h : GIs a U g m k H) (hp : H p = none) : GIs a (fun b => U b ∨ b = p) g m k (upd H p o) := by
  obtain ⟨w, H0, e, gd, rfl, out, K⟩ := h
  obtain ⟨o1, o2⟩ := put_none gd hp
  refine ⟨w, upd H0 p o, e, gd, put_upd gd o1, fun b hb => ?_, ?_⟩
  · rcases hb with hb | rfl
    · refine ⟨(out b hb).1, ?_⟩
      by_cases q : b = p
      · subst q; rw [upd_same]; simp
      · rw [upd_ne q]; exact (out b hb).2
    · exact ⟨o1, by rw [upd_same]; simp⟩
  · cases k with
    | none => exact K
    | some q =>
      obtain ⟨wk, h1, h2, h3, h4, h5⟩ := K
      have ne : ∀ i, i < NK → wk.A i ≠ p := fun i hi z => by
        have e : (kcells a wk q)[i]? = some (kcells a wk q)[i] := List.getElem?_eq_getElem hi
        have := h4 i hi
        rw [z, o2, e] at this
        cases this
      refine ⟨wk, h1, h2, h3, fun i hi => by rw [upd_ne (ne i hi)]; exact h4 i hi, fun b hb => ?_⟩
      rcases hb with hb | rfl
      · exact h5 b hb
      · exact fun i hi z => ne i hi z.symm
theorem GIs.write {b : Addr} {o : HO} (h : GIs a U g m k H) (hb : U b) : GIs a U g m k (upd H b o) := by
  obtain ⟨w, H0, e, gd, rfl, out, K⟩ := h
  refine ⟨w, upd H0 b o, e, gd, put_upd gd (out b hb).1, fun c hc => ⟨(out c hc).1, ?_⟩, ?_⟩
  · by_cases q : c = b
    · subst q; rw [upd_same]; simp
    · rw [upd_ne q]; exact (out c hc).2
  · cases k with
    | none => exact K
    | some q =>
      obtain ⟨wk, h1, h2, h3, h4, h5⟩ := K
      exact ⟨wk, h1, h2, h3, fun i hi => by rw [upd_ne (fun z => h5 b hb i hi z.symm)]; exact h4 i hi, h5⟩
/-- the match s stands behind the name's value gv; what E names lies apart from it -/
def Live (a : Ad) (E : Addr → Prop) (s : Option (M × Option KM)) (gv : V) (H : Hp) : Prop := match s with
  | none => gv = .non
  | some (m, k) => ∃ g, gv = .ref g ∧ GIs a E g m k H
variable {E E' : Addr → Prop} {s : Option (M × Option KM)} {gv : V}
theorem Live.weaken (h : Live a E s gv H) (hE : ∀ b, E' b → E b) : Live a E' s gv H := by
  cases s with
  | none => exact h
  | some mk =>
    obtain ⟨g, e, h⟩ := h
    exact ⟨g, e, h.weaken hE⟩
theorem Live.alloc {p : Addr} {o : HO} (h : Live a E s gv H) (hp : H p = none) : Live a (fun b => E b ∨ b = p) s gv (upd H p o) := by
  cases s with
  | none => exact h
  | some mk =>
    obtain ⟨g, e, h⟩ := h
    exact ⟨g, e, h.alloc hp⟩
theorem Live.write {b : Addr} {o : HO} (h : Live a E s gv H) (hb : E b) : Live a E s gv (upd H b o) := by
  cases s with
  | none => exact h
  | some mk =>
    obtain ⟨g, e, h⟩ := h
    exact ⟨g, e, h.write hb⟩
end
end MK

/-! Each def's body as a term of rules: made by gen.py of the linked program. -/
namespace MK
open PySem PySem.Spec PyProof.Rows L2
section
variable {P : Program} {w : World} {K : PySem.W.Frag} {mg : Str → Option Value} {base : Heap} {a : Ad}
def t_lengths_allowed (K : PySem.W.Frag) (a : Ad) : TS :=
  (tSeq (tIfS (tOr (tB (tLt (tVar 0) (tC (.int 60)))) (tB (tGt (tVar 0) (tC (.int 3600))))) (tRet (tC (.bl false))) tNext)
    (tRet (tOrV (tOp rEq (tVar 1) (tC (.int 0))) (tAndV (tGe (tVar 1) (tC (.int 60))) (tLe (tVar 1) (tC (.int 1800)))))))
theorem b_lengths_allowed {cdv : Value} {A : Around} {outer : List Env} {s : Shared} {H : Hp} {E : XK} (T : Txt K mg a) (hr : Room 0 (A.deeper (envOfC "lengths_allowed" (defScope st_lengths_allowed) s.heap.objs.size a.f_lengths_allowed cdv))) :
    PSs (cxOf CX0 P w K mg base ["half", "extra"] "lengths_allowed" (defScope st_lengths_allowed) a.f_lengths_allowed cdv A outer s H E).nox (defBody st_lengths_allowed) (t_lengths_allowed K a) :=
  (pss_cons (ps_if (PW.pt (pw_or (pt_cmp (pc_lt (pv 0) (pe_gc rfl T.g_SHORTEST))) (pw_or1 (pt_cmp (pc_gt (pv 0) (pe_gc rfl T.g_LONGEST_HALF)))))) (pss_one (ps_ret pe_bl)) pss_nil)
    (pss_one (ps_ret (pe_or (pe_cmpR op_eq (pv 1) pe_int (nomark _)) (pe_one (pe_and (pe_cmp (pc_ge (pv 1) (pe_gc rfl T.g_SHORTEST))) (pe_one (pe_cmp (pc_le (pv 1) (pe_gc rfl T.g_LONGEST_EXTRA))))))))))
def t_minutes_rounded_up (K : PySem.W.Frag) (a : Ad) : TS :=
  (tRet (tOp (rI CDiv fun i j => .int (i / j)) (tSub (tAdd (tVar 0) (tC (.int 60))) (tC (.int 1))) (tC (.int 60))))
theorem b_minutes_rounded_up {cdv : Value} {A : Around} {outer : List Env} {s : Shared} {H : Hp} {E : XK} (T : Txt K mg a) (hr : Room 0 (A.deeper (envOfC "minutes_rounded_up" (defScope st_minutes_rounded_up) s.heap.objs.size a.f_minutes_rounded_up cdv))) :
    PSs (cxOf CX0 P w K mg base ["seconds"] "minutes_rounded_up" (defScope st_minutes_rounded_up) a.f_minutes_rounded_up cdv A outer s H E).nox (defBody st_minutes_rounded_up) (t_minutes_rounded_up K a) :=
  (pss_one (ps_ret (pe_op op_fdiv (pe_sub (pe_add (pv 0) (pe_gc rfl T.g_MINUTE_clock)) pe_int) (pe_gc rfl T.g_MINUTE_clock))))
def t_Clock_init (K : PySem.W.Frag) (a : Ad) : TS :=
  (tSeq (sFld K (tVar 0) (tIf (tTest (tOp rEq (tVar 2) (tC (.int 0)))) (tLst (tCons (tVar 1) (tCons (tVar 1) tNil))) (tLst (tCons (tVar 1) (tCons (tVar 1) (tCons (tVar 2) (tCons (tVar 2) tNil)))))) "lengths")
    (tSeq (sFld K (tVar 0) (tC (.int 0)) "played")
    (tSeq (sFld K (tVar 0) (tC (.bl false)) "running")
    (tSeq (sFld K (tVar 0) (tC (.int 0)) "gone")
    (sFld K (tVar 0) (tC (.int 0)) "stood")))))
theorem b_Clock_init {cdv : Value} {A : Around} {outer : List Env} {s : Shared} {H : Hp} {E : XK} (T : Txt K mg a) (hr : Room 0 (A.deeper (envOfC "Clock.__init__" (defScope st_Clock_init) s.heap.objs.size a.f_Clock_init cdv))) :
    PSs (cxOf CX0 P w K mg base ["self", "half", "extra"] "Clock.__init__" (defScope st_Clock_init) a.f_Clock_init cdv A outer s H E).nox (defBody st_Clock_init) (t_Clock_init K a) :=
  (pss_cons (ps_fld (pv 0) (pe_ifExp (pt_cmpR op_eq (pv 2) pe_int (nomark _)) (pe_lst (pa_cons (pv 1) (pa_cons (pv 1) pa_nil))) (pe_lst (pa_cons (pv 1) (pa_cons (pv 1) (pa_cons (pv 2) (pa_cons (pv 2) pa_nil)))))) rfl)
    (pss_cons (ps_fld (pv 0) pe_int rfl)
    (pss_cons (ps_fld (pv 0) pe_bl rfl)
    (pss_cons (ps_fld (pv 0) pe_int rfl)
    (pss_one (ps_fld (pv 0) pe_int rfl))))))
def t_Clock_all_played (K : PySem.W.Frag) (a : Ad) : TS :=
  (tRet (tOp rEq (tFld K (tVar 0) "played") (tCB rLenP (tCons (tFld K (tVar 0) "lengths") tNil))))
theorem b_Clock_all_played {cdv : Value} {A : Around} {outer : List Env} {s : Shared} {H : Hp} {E : XK} (T : Txt K mg a) (hr : Room 0 (A.deeper (envOfC "Clock.all_played" (defScope st_Clock_all_played) s.heap.objs.size a.f_Clock_all_played cdv))) :
    PSs (cxOf CX0 P w K mg base ["self"] "Clock.all_played" (defScope st_Clock_all_played) a.f_Clock_all_played cdv A outer s H E).nox (defBody st_Clock_all_played) (t_Clock_all_played K a) :=
  (pss_one (ps_ret (pe_cmpR op_eq (pe_fld (pv 0) rfl) (pe_callB call_lenP (by rfl) T.no_len PySem.boot_len (pa_cons (pe_fld (pv 0) rfl) pa_nil)) (nomark _))))
def t_Clock_length (K : PySem.W.Frag) (a : Ad) : TS :=
  (tRet (tOp rIxP (tFld K (tVar 0) "lengths") (tFld K (tVar 0) "played")))
theorem b_Clock_length {cdv : Value} {A : Around} {outer : List Env} {s : Shared} {H : Hp} {E : XK} (T : Txt K mg a) (hr : Room 0 (A.deeper (envOfC "Clock.length" (defScope st_Clock_length) s.heap.objs.size a.f_Clock_length cdv))) :
    PSs (cxOf CX0 P w K mg base ["self"] "Clock.length" (defScope st_Clock_length) a.f_Clock_length cdv A outer s H E).nox (defBody st_Clock_length) (t_Clock_length K a) :=
  (pss_one (ps_ret (pe_ix ix_listP (pe_fld (pv 0) rfl) (pe_fld (pv 0) rfl) (fun _ _ => rfl))))
def t_Clock_kick (K : PySem.W.Frag) (a : Ad) : TS :=
  (tSeq (tIfS (tB (tFld K (tVar 0) "running")) (tRet (tC (.int (-16)))) tNext)
    (tSeq (tIfS (tB (tMeth a.c_Clock "all_played" (sp_Clock_all_played K a) [] E0 (tVar 0) tNil)) (tRet (tC (.int (-11)))) tNext)
    (tSeq (sFld K (tVar 0) (tC (.bl true)) "running")
    (tSeq (sFld K (tVar 0) (tC (.int 0)) "gone")
    (tSeq (sFld K (tVar 0) (tC (.int 0)) "stood")
    (tRet (tAdd (tFld K (tVar 0) "played") (tC (.int 1)))))))))
theorem b_Clock_kick {cdv : Value} {A : Around} {outer : List Env} {s : Shared} {H : Hp} {E : XK} (T : Txt K mg a) (G_Clock_all_played : FnOk P w K mg base CX0 1 a.f_Clock_all_played a.d_Clock_all_played ["self"] (sp_Clock_all_played K a)) (hr : Room 1 (A.deeper (envOfC "Clock.kick" (defScope st_Clock_kick) s.heap.objs.size a.f_Clock_kick cdv))) :
    PSs (cxOf CX0 P w K mg base ["self"] "Clock.kick" (defScope st_Clock_kick) a.f_Clock_kick cdv A outer s H E).nox (defBody st_Clock_kick) (t_Clock_kick K a) :=
  (pss_cons (ps_if (pt_val (pe_fld (pv 0) rfl)) (pss_one (ps_ret (pe_gc rfl T.g_NOT_NOW))) pss_nil)
    (pss_cons (ps_if (pt_val (pe_meth0 (pv 0) T.cl_Clock T.m_Clock_all_played G_Clock_all_played (hr.mono (by decide)) T.b_Clock_all_played .nil pass0)) (pss_one (ps_ret (pe_gc rfl T.g_NO_PERIOD))) pss_nil)
    (pss_cons (ps_fld (pv 0) pe_bl rfl)
    (pss_cons (ps_fld (pv 0) pe_int rfl)
    (pss_cons (ps_fld (pv 0) pe_int rfl)
    (pss_one (ps_ret (pe_add (pe_fld (pv 0) rfl) pe_int))))))))
def t_Clock_tick (K : PySem.W.Frag) (a : Ad) : TS :=
  (tSeq (tIfS (tOr (tB (tLt (tVar 1) (tC (.int 1)))) (tB (tGt (tVar 1) (tC (.int 3600))))) (tRet (tC (.int (-22)))) tNext)
    (tSeq (tIfS (tNot (tB (tFld K (tVar 0) "running"))) (tRet (tC (.int 0))) tNext)
    (tSeq (tIfS (tB (tGt (tAdd (tFld K (tVar 0) "gone") (tVar 1)) (tC (.int 1000000)))) (tRet (tC (.int (-28)))) tNext)
    (tSeq (sFldAug K (tVar 0) (tVar 1) rAdd "gone")
    (tSeq (tIfS (tB (tVar 2)) (sFldAug K (tVar 0) (tVar 1) rAdd "stood") tNext)
    (tRet (tFld K (tVar 0) "gone")))))))
theorem b_Clock_tick {cdv : Value} {A : Around} {outer : List Env} {s : Shared} {H : Hp} {E : XK} (T : Txt K mg a) (hr : Room 0 (A.deeper (envOfC "Clock.tick" (defScope st_Clock_tick) s.heap.objs.size a.f_Clock_tick cdv))) :
    PSs (cxOf CX0 P w K mg base ["self", "seconds", "standing"] "Clock.tick" (defScope st_Clock_tick) a.f_Clock_tick cdv A outer s H E).nox (defBody st_Clock_tick) (t_Clock_tick K a) :=
  (pss_cons (ps_if (PW.pt (pw_or (pt_cmp (pc_lt (pv 1) pe_int)) (pw_or1 (pt_cmp (pc_gt (pv 1) (pe_gc rfl T.g_LONGEST_TICK)))))) (pss_one (ps_ret (pe_gc rfl T.g_OUT_OF_RANGE))) pss_nil)
    (pss_cons (ps_if (pt_not (pt_val (pe_fld (pv 0) rfl))) (pss_one (ps_ret pe_int)) pss_nil)
    (pss_cons (ps_if (pt_cmp (pc_gt (pe_add (pe_fld (pv 0) rfl) (pv 1)) (pe_gc rfl T.g_MOST_SECONDS))) (pss_one (ps_ret (pe_gc rfl T.g_USED_UP))) pss_nil)
    (pss_cons (ps_fldaug (pv 0) (pv 1) in_add)
    (pss_cons (ps_if (pt_val (pv 2)) (pss_one (ps_fldaug (pv 0) (pv 1) in_add)) pss_nil)
    (pss_one (ps_ret (pe_fld (pv 0) rfl))))))))
def t_Clock_whistle (K : PySem.W.Frag) (a : Ad) : TS :=
  (tSeq (tIfS (tNot (tB (tFld K (tVar 0) "running"))) (tRet (tC (.int (-11)))) tNext)
    (tSeq (tIfS (tB (tLt (tFld K (tVar 0) "gone") (tAdd (tMeth a.c_Clock "length" (sp_Clock_length K a) [] E0 (tVar 0) tNil) (tFld K (tVar 0) "stood")))) (tRet (tC (.int (-35)))) tNext)
    (tSeq (sFld K (tVar 0) (tC (.bl false)) "running")
    (tSeq (sFldAug K (tVar 0) (tC (.int 1)) rAdd "played")
    (tRet (tFld K (tVar 0) "played"))))))
theorem b_Clock_whistle {cdv : Value} {A : Around} {outer : List Env} {s : Shared} {H : Hp} {E : XK} (T : Txt K mg a) (G_Clock_length : FnOk P w K mg base CX0 1 a.f_Clock_length a.d_Clock_length ["self"] (sp_Clock_length K a)) (hr : Room 1 (A.deeper (envOfC "Clock.whistle" (defScope st_Clock_whistle) s.heap.objs.size a.f_Clock_whistle cdv))) :
    PSs (cxOf CX0 P w K mg base ["self"] "Clock.whistle" (defScope st_Clock_whistle) a.f_Clock_whistle cdv A outer s H E).nox (defBody st_Clock_whistle) (t_Clock_whistle K a) :=
  (pss_cons (ps_if (pt_not (pt_val (pe_fld (pv 0) rfl))) (pss_one (ps_ret (pe_gc rfl T.g_NO_PERIOD))) pss_nil)
    (pss_cons (ps_if (pt_cmp (pc_lt (pe_fld (pv 0) rfl) (pe_add (pe_meth0 (pv 0) T.cl_Clock T.m_Clock_length G_Clock_length (hr.mono (by decide)) T.b_Clock_length .nil pass0) (pe_fld (pv 0) rfl)))) (pss_one (ps_ret (pe_gc rfl T.g_TOO_EARLY))) pss_nil)
    (pss_cons (ps_fld (pv 0) pe_bl rfl)
    (pss_cons (ps_fldaug (pv 0) pe_int in_add)
    (pss_one (ps_ret (pe_fld (pv 0) rfl)))))))
def t_Clock_minute (K : PySem.W.Frag) (a : Ad) : TS :=
  (tSeq (tIfS (tNot (tB (tFld K (tVar 0) "running"))) (tRet (tLst (tCons (tC (.int (-11))) tNil))) tNext)
    (tSeq (tAsg (tCB rSumP (tCons (tSl rSlP (tFld K (tVar 0) "lengths") tNoPart (tPart (tFld K (tVar 0) "played"))) tNil)) (gName 1))
    (tSeq (tAsg (tSub (tFld K (tVar 0) "gone") (tMeth a.c_Clock "length" (sp_Clock_length K a) [] E0 (tVar 0) tNil)) (gName 2))
    (tSeq (tIfS (tB (tLt (tVar 2) (tC (.int 0)))) (tRet (tLst (tCons (tC (.int 0)) (tCons (tAdd (tOp (rI CDiv fun i j => .int (i / j)) (tAdd (tVar 1) (tFld K (tVar 0) "gone")) (tC (.int 60))) (tC (.int 1))) (tCons (tC (.int 0)) tNil))))) tNext)
    (tRet (tLst (tCons (tC (.int 0)) (tCons (tCall (sp_minutes_rounded_up K a) [] E0 (tCons (tAdd (tVar 1) (tMeth a.c_Clock "length" (sp_Clock_length K a) [] E0 (tVar 0) tNil)) tNil)) (tCons (tAdd (tOp (rI CDiv fun i j => .int (i / j)) (tVar 2) (tC (.int 60))) (tC (.int 1))) tNil)))))))))
theorem b_Clock_minute {cdv : Value} {A : Around} {outer : List Env} {s : Shared} {H : Hp} {E : XK} (T : Txt K mg a) (G_Clock_length : FnOk P w K mg base CX0 1 a.f_Clock_length a.d_Clock_length ["self"] (sp_Clock_length K a)) (G_minutes_rounded_up : FnOk P w K mg base CX0 1 a.f_minutes_rounded_up a.d_minutes_rounded_up ["seconds"] (sp_minutes_rounded_up K a)) (hr : Room 1 (A.deeper (envOfC "Clock.minute" (defScope st_Clock_minute) s.heap.objs.size a.f_Clock_minute cdv))) :
    PSs (cxOf CX0 P w K mg base ["self", "earlier", "beyond"] "Clock.minute" (defScope st_Clock_minute) a.f_Clock_minute cdv A outer s H E).nox (defBody st_Clock_minute) (t_Clock_minute K a) :=
  (pss_cons (ps_if (pt_not (pt_val (pe_fld (pv 0) rfl))) (pss_one (ps_ret (pe_lst (pa_cons (pe_gc rfl T.g_NO_PERIOD) pa_nil)))) pss_nil)
    (pss_cons (ps_set (i := 1) sc_Clock_minute.nd rfl (Or.inl rfl) (pe_callB (call_sumP rfl) (by rfl) T.no_sum boot_sum (pa_cons (pe_slice sl_listP (pe_fld (pv 0) rfl) po_none (po_some (pe_fld (pv 0) rfl))) pa_nil)))
    (pss_cons (ps_set (i := 2) sc_Clock_minute.nd rfl (Or.inl rfl) (pe_sub (pe_fld (pv 0) rfl) (pe_meth0 (pv 0) T.cl_Clock T.m_Clock_length G_Clock_length (hr.mono (by decide)) T.b_Clock_length .nil pass0)))
    (pss_cons (ps_if (pt_cmp (pc_lt (pv 2) pe_int)) (pss_one (ps_ret (pe_lst (pa_cons pe_int (pa_cons (pe_add (pe_op op_fdiv (pe_add (pv 1) (pe_fld (pv 0) rfl)) (pe_gc rfl T.g_MINUTE_clock)) pe_int) (pa_cons pe_int pa_nil)))))) pss_nil)
    (pss_one (ps_ret (pe_lst (pa_cons pe_int (pa_cons (pe_call G_minutes_rounded_up (hr.mono (by decide)) rfl T.m_minutes_rounded_up T.F_minutes_rounded_up.kp T.b_minutes_rounded_up .nil pass0 (pa_cons (pe_add (pv 1) (pe_meth0 (pv 0) T.cl_Clock T.m_Clock_length G_Clock_length (hr.mono (by decide)) T.b_Clock_length .nil pass0)) pa_nil)) (pa_cons (pe_add (pe_op op_fdiv (pv 2) (pe_gc rfl T.g_MINUTE_clock)) pe_int) pa_nil))))))))))
def t_other (K : PySem.W.Frag) (a : Ad) : TS :=
  (tRet (tSub (tC (.int 1)) (tVar 0)))
theorem b_other {cdv : Value} {A : Around} {outer : List Env} {s : Shared} {H : Hp} {E : XK} (T : Txt K mg a) (hr : Room 0 (A.deeper (envOfC "other" (defScope st_other) s.heap.objs.size a.f_other cdv))) :
    PSs (cxOf CX0 P w K mg base ["team"] "other" (defScope st_other) a.f_other cdv A outer s H E).nox (defBody st_other) (t_other K a) :=
  (pss_one (ps_ret (pe_sub pe_int (pv 0))))
def t_won_by (K : PySem.W.Frag) (a : Ad) : TS :=
  (tRet (tAdd (tVar 0) (tC (.int 1))))
theorem b_won_by {cdv : Value} {A : Around} {outer : List Env} {s : Shared} {H : Hp} {E : XK} (T : Txt K mg a) (hr : Room 0 (A.deeper (envOfC "won_by" (defScope st_won_by) s.heap.objs.size a.f_won_by cdv))) :
    PSs (cxOf CX0 P w K mg base ["team"] "won_by" (defScope st_won_by) a.f_won_by cdv A outer s H E).nox (defBody st_won_by) (t_won_by K a) :=
  (pss_one (ps_ret (pe_add (pv 0) pe_int)))
def t_first_places (K : PySem.W.Frag) (a : Ad) : TS :=
  (tRet (tLc (iRng1 (tCons (tC (.int 18)) tNil)) (gName 0) tYes (tIf (tB (tLt (tVar 0) (tC (.int 11)))) (tC (.int 1)) (tC (.int 2))) [0]))
def compScope_first_places : Scope := match defBody st_first_places with
  | [.Return (some (.ListComp _ _ sc _)) _] => sc
  | [.Return (some (.Call _ [.ListComp _ _ sc _] _ _)) _] => sc
  | _ => defScope st_first_places
theorem BLK_first_places : BlkOk ["player"] (defScope st_first_places) compScope_first_places [("player", 0)] := ⟨rfl, by decide +kernel, by decide +kernel, by decide +kernel, by decide +kernel⟩
theorem b_first_places {cdv : Value} {A : Around} {outer : List Env} {s : Shared} {H : Hp} {E : XK} (T : Txt K mg a) (hr : Room 0 (A.deeper (envOfC "first_places" (defScope st_first_places) s.heap.objs.size a.f_first_places cdv))) :
    PSs (cxOf CX0 P w K mg base ["player"] "first_places" (defScope st_first_places) a.f_first_places cdv A outer s H E).nox (defBody st_first_places) (t_first_places K a) :=
  (pss_one (ps_ret (pe_lc (own := [("player", 0)]) rfl sc_first_places.nd (pi_range1 (by rfl) T.no_range (pa_cons (pe_gc rfl T.g_PLAYERS) pa_nil)) BLK_first_places (fun _ _ _ _ _ => pg_name (i := 0) sc_first_places.nd rfl (Or.inl rfl)) (fun _ _ _ _ _ => pts_nil) (fun _ _ _ _ _ => (pe_ifExp (pt_cmp (pc_lt (pv 0) (pe_gc rfl T.g_STARTERS))) (pe_gc rfl T.g_ON_field) (pe_gc rfl T.g_BENCH))))))
def t_as_bits (K : PySem.W.Frag) (a : Ad) : TS :=
  (tSeq (tAsg (tC (.int 0)) (gName 1))
    (tSeq (tAsg (tC (.int 1)) (gName 2))
    (tSeq (tFor (iRng1 (tCons (tC (.int 18)) tNil)) (gName 3)
    (tSeq (tIfS (tTest (tOp rInP (tVar 3) (tVar 0))) (tAug 1 (tVar 2) (ipI fun i j => i + j)) tNext)
    (tAsg (tOp (rI CMul fun i j => .int (i * j)) (tC (.int 2)) (tVar 2)) (gName 2))))
    (tRet (tVar 1)))))
theorem b_as_bits {cdv : Value} {A : Around} {outer : List Env} {s : Shared} {H : Hp} {E : XK} (T : Txt K mg a) (hr : Room 0 (A.deeper (envOfC "as_bits" (defScope st_as_bits) s.heap.objs.size a.f_as_bits cdv))) :
    PSs (cxOf CX0 P w K mg base ["players", "bits", "weight", "player"] "as_bits" (defScope st_as_bits) a.f_as_bits cdv A outer s H E).nox (defBody st_as_bits) (t_as_bits K a) :=
  (pss_cons (ps_set (i := 1) sc_as_bits.nd rfl (Or.inl rfl) pe_int)
    (pss_cons (ps_set (i := 2) sc_as_bits.nd rfl (Or.inl rfl) pe_int)
    (pss_cons (ps_for PassesOwn.never rfl (pi_range1 (by rfl) T.no_range (pa_cons (pe_gc rfl T.g_PLAYERS) pa_nil)) (pg_name (i := 3) sc_as_bits.nd rfl (Or.inl rfl))
    (pss_cons (ps_if (pt_cmpR op_inP (pv 3) (pv 0) (by with_unfolding_all rfl)) (pss_one (ps_aug (i := 1) sc_as_bits.nd rfl (Or.inl rfl) (pv 2) ip_add)) pss_nil)
    (pss_one (ps_set (i := 2) sc_as_bits.nd rfl (Or.inl rfl) (pe_op op_mul pe_int (pv 2))))))
    (pss_one (ps_ret (pv 1))))))
def t_Field_init (K : PySem.W.Frag) (a : Ad) : TS :=
  (tSeq (sFld K (tVar 0) (tLst (tCons (tCall (sp_first_places K a) [] E0 tNil) (tCons (tCall (sp_first_places K a) [] E0 tNil) tNil))) "places")
    (tSeq (sFld K (tVar 0) (tLst (tCons (tOp rRep (tLst (tCons (tC (.bl false)) tNil)) (tC (.int 18))) (tCons (tOp rRep (tLst (tCons (tC (.bl false)) tNil)) (tC (.int 18))) tNil))) "booked")
    (tSeq (sFld K (tVar 0) (tC (.int 2)) "play")
    (tSeq (sFld K (tVar 0) (tLst (tCons (tC (.int 0)) (tCons (tC (.int 0)) tNil))) "changes")
    (tSeq (sFld K (tVar 0) (tLst (tCons (tC (.int 0)) (tCons (tC (.int 0)) tNil))) "windows")
    (tSeq (sFld K (tVar 0) (tLst (tCons (tC (.bl false)) (tCons (tC (.bl false)) tNil))) "in_window")
    (sFld K (tVar 0) (tLst (tCons (tC (.int 0)) (tCons (tC (.int 0)) tNil))) "scored")))))))
theorem b_Field_init {cdv : Value} {A : Around} {outer : List Env} {s : Shared} {H : Hp} {E : XK} (T : Txt K mg a) (G_first_places : FnOk P w K mg base CX0 1 a.f_first_places a.d_first_places [] (sp_first_places K a)) (hr : Room 1 (A.deeper (envOfC "Field.__init__" (defScope st_Field_init) s.heap.objs.size a.f_Field_init cdv))) :
    PSs (cxOf CX0 P w K mg base ["self"] "Field.__init__" (defScope st_Field_init) a.f_Field_init cdv A outer s H E).nox (defBody st_Field_init) (t_Field_init K a) :=
  (pss_cons (ps_fld (pv 0) (pe_lst (pa_cons (pe_call0 G_first_places (hr.mono (by decide)) rfl T.m_first_places T.F_first_places.kp T.b_first_places .nil pass0) (pa_cons (pe_call0 G_first_places (hr.mono (by decide)) rfl T.m_first_places T.F_first_places.kp T.b_first_places .nil pass0) pa_nil))) rfl)
    (pss_cons (ps_fld (pv 0) (pe_lst (pa_cons (pe_op op_rep (pe_lst (pa_cons pe_bl pa_nil)) (pe_gc rfl T.g_PLAYERS)) (pa_cons (pe_op op_rep (pe_lst (pa_cons pe_bl pa_nil)) (pe_gc rfl T.g_PLAYERS)) pa_nil))) rfl)
    (pss_cons (ps_fld (pv 0) (pe_gc rfl T.g_RESTS) rfl)
    (pss_cons (ps_fld (pv 0) (pe_lst (pa_cons pe_int (pa_cons pe_int pa_nil))) rfl)
    (pss_cons (ps_fld (pv 0) (pe_lst (pa_cons pe_int (pa_cons pe_int pa_nil))) rfl)
    (pss_cons (ps_fld (pv 0) (pe_lst (pa_cons pe_bl (pa_cons pe_bl pa_nil))) rfl)
    (pss_one (ps_fld (pv 0) (pe_lst (pa_cons pe_int (pa_cons pe_int pa_nil))) rfl))))))))
def t_Field_set_play (K : PySem.W.Frag) (a : Ad) : TS :=
  (tSeq (tIfS (tTest (tOp rEq (tVar 1) (tC (.int 0)))) (sFld K (tVar 0) (tLst (tCons (tC (.bl false)) (tCons (tC (.bl false)) tNil))) "in_window") tNext)
    (sFld K (tVar 0) (tVar 1) "play"))
theorem b_Field_set_play {cdv : Value} {A : Around} {outer : List Env} {s : Shared} {H : Hp} {E : XK} (T : Txt K mg a) (hr : Room 0 (A.deeper (envOfC "Field.set_play" (defScope st_Field_set_play) s.heap.objs.size a.f_Field_set_play cdv))) :
    PSs (cxOf CX0 P w K mg base ["self", "play"] "Field.set_play" (defScope st_Field_set_play) a.f_Field_set_play cdv A outer s H E).nox (defBody st_Field_set_play) (t_Field_set_play K a) :=
  (pss_cons (ps_if (pt_cmpR op_eq (pv 1) (pe_gc rfl T.g_GOES_ON) (nomark _)) (pss_one (ps_fld (pv 0) (pe_lst (pa_cons pe_bl (pa_cons pe_bl pa_nil))) rfl)) pss_nil)
    (pss_one (ps_fld (pv 0) (pv 1) rfl)))
def t_Field_is_standing (K : PySem.W.Frag) (a : Ad) : TS :=
  (tRet (tOp rNe (tFld K (tVar 0) "play") (tC (.int 0))))
theorem b_Field_is_standing {cdv : Value} {A : Around} {outer : List Env} {s : Shared} {H : Hp} {E : XK} (T : Txt K mg a) (hr : Room 0 (A.deeper (envOfC "Field.is_standing" (defScope st_Field_is_standing) s.heap.objs.size a.f_Field_is_standing cdv))) :
    PSs (cxOf CX0 P w K mg base ["self"] "Field.is_standing" (defScope st_Field_is_standing) a.f_Field_is_standing cdv A outer s H E).nox (defBody st_Field_is_standing) (t_Field_is_standing K a) :=
  (pss_one (ps_ret (pe_cmpR op_ne (pe_fld (pv 0) rfl) (pe_gc rfl T.g_GOES_ON) (nomark _))))
def t_Field_is_on (K : PySem.W.Frag) (a : Ad) : TS :=
  (tRet (tOp rEq (tOp rIxP (tOp rIxP (tFld K (tVar 0) "places") (tVar 1)) (tVar 2)) (tC (.int 1))))
theorem b_Field_is_on {cdv : Value} {A : Around} {outer : List Env} {s : Shared} {H : Hp} {E : XK} (T : Txt K mg a) (hr : Room 0 (A.deeper (envOfC "Field.is_on" (defScope st_Field_is_on) s.heap.objs.size a.f_Field_is_on cdv))) :
    PSs (cxOf CX0 P w K mg base ["self", "team", "player"] "Field.is_on" (defScope st_Field_is_on) a.f_Field_is_on cdv A outer s H E).nox (defBody st_Field_is_on) (t_Field_is_on K a) :=
  (pss_one (ps_ret (pe_cmpR op_eq (pe_ix ix_listP (pe_ix ix_listP (pe_fld (pv 0) rfl) (pv 1) (fun _ _ => rfl)) (pv 2) (fun _ _ => rfl)) (pe_gc rfl T.g_ON_field) (nomark _))))
def t_Field_players_on (K : PySem.W.Frag) (a : Ad) : TS :=
  (tRet (tLc (iRng1 (tCons (tC (.int 18)) tNil)) (gName 2) (tB (tMeth a.c_Field "is_on" (sp_Field_is_on K a) [] E0 (tVar 0) (tCons (tVar 1) (tCons (tVar 2) tNil)))) (tVar 2) [2]))
def compScope_Field_players_on : Scope := match defBody st_Field_players_on with
  | [.Return (some (.ListComp _ _ sc _)) _] => sc
  | [.Return (some (.Call _ [.ListComp _ _ sc _] _ _)) _] => sc
  | _ => defScope st_Field_players_on
theorem BLK_Field_players_on : BlkOk ["self", "team", "player"] (defScope st_Field_players_on) compScope_Field_players_on [("player", 2)] := ⟨rfl, by decide +kernel, by decide +kernel, by decide +kernel, by decide +kernel⟩
theorem b_Field_players_on {cdv : Value} {A : Around} {outer : List Env} {s : Shared} {H : Hp} {E : XK} (T : Txt K mg a) (G_Field_is_on : FnOk P w K mg base CX0 1 a.f_Field_is_on a.d_Field_is_on ["self", "team", "player"] (sp_Field_is_on K a)) (hr : Room 1 (A.deeper (envOfC "Field.players_on" (defScope st_Field_players_on) s.heap.objs.size a.f_Field_players_on cdv))) :
    PSs (cxOf CX0 P w K mg base ["self", "team", "player"] "Field.players_on" (defScope st_Field_players_on) a.f_Field_players_on cdv A outer s H E).nox (defBody st_Field_players_on) (t_Field_players_on K a) :=
  (pss_one (ps_ret (pe_lc (own := [("player", 2)]) rfl sc_Field_players_on.nd (pi_range1 (by rfl) T.no_range (pa_cons (pe_gc rfl T.g_PLAYERS) pa_nil)) BLK_Field_players_on (fun _ _ _ _ _ => pg_name (i := 2) sc_Field_players_on.nd rfl (Or.inl rfl)) (fun _ _ _ _ _ => (pts_one (pt_val (pe_meth (pv 0) T.cl_Field T.m_Field_is_on G_Field_is_on (hr.mono (by decide)) T.b_Field_is_on .nil pass0 (pa_cons (pv 1) (pa_cons (pv 2) pa_nil)))))) (fun _ _ _ _ _ => (pv 2)))))
def t_Field_too_few (K : PySem.W.Frag) (a : Ad) : TS :=
  (tRet (tLt (tCB rLenP (tCons (tMeth a.c_Field "players_on" (sp_Field_players_on K a) [] E0 (tVar 0) (tCons (tVar 1) tNil)) tNil)) (tC (.int 7))))
theorem b_Field_too_few {cdv : Value} {A : Around} {outer : List Env} {s : Shared} {H : Hp} {E : XK} (T : Txt K mg a) (G_Field_players_on : FnOk P w K mg base CX0 2 a.f_Field_players_on a.d_Field_players_on ["self", "team"] (sp_Field_players_on K a)) (hr : Room 2 (A.deeper (envOfC "Field.too_few" (defScope st_Field_too_few) s.heap.objs.size a.f_Field_too_few cdv))) :
    PSs (cxOf CX0 P w K mg base ["self", "team"] "Field.too_few" (defScope st_Field_too_few) a.f_Field_too_few cdv A outer s H E).nox (defBody st_Field_too_few) (t_Field_too_few K a) :=
  (pss_one (ps_ret (pe_cmp (pc_lt (pe_callB call_lenP (by rfl) T.no_len PySem.boot_len (pa_cons (pe_meth (pv 0) T.cl_Field T.m_Field_players_on G_Field_players_on (hr.mono (by decide)) T.b_Field_players_on .nil pass0 (pa_cons (pv 1) pa_nil)) pa_nil)) (pe_gc rfl T.g_FEWEST_ON)))))
def t_Field_on (K : PySem.W.Frag) (a : Ad) : TS :=
  (tSeq (tIfS (tB (tGt (tVar 1) (tC (.int 1)))) (tRet (tLst (tCons (tC (.int (-22))) tNil))) tNext)
    (tSeq (tAsg (tMeth a.c_Field "players_on" (sp_Field_players_on K a) [] E0 (tVar 0) (tCons (tVar 1) tNil)) (gName 2))
    (tRet (tLst (tCons (tCB rLenP (tCons (tVar 2) tNil)) (tCons (tCall (sp_as_bits K a) [] E0 (tCons (tVar 2) tNil)) tNil))))))
theorem b_Field_on {cdv : Value} {A : Around} {outer : List Env} {s : Shared} {H : Hp} {E : XK} (T : Txt K mg a) (G_Field_players_on : FnOk P w K mg base CX0 2 a.f_Field_players_on a.d_Field_players_on ["self", "team"] (sp_Field_players_on K a)) (G_as_bits : FnOk P w K mg base CX0 1 a.f_as_bits a.d_as_bits ["players"] (sp_as_bits K a)) (hr : Room 2 (A.deeper (envOfC "Field.on" (defScope st_Field_on) s.heap.objs.size a.f_Field_on cdv))) :
    PSs (cxOf CX0 P w K mg base ["self", "team", "players"] "Field.on" (defScope st_Field_on) a.f_Field_on cdv A outer s H E).nox (defBody st_Field_on) (t_Field_on K a) :=
  (pss_cons (ps_if (pt_cmp (pc_gt (pv 1) (pe_gc rfl T.g_LAST_TEAM))) (pss_one (ps_ret (pe_lst (pa_cons (pe_gc rfl T.g_OUT_OF_RANGE) pa_nil)))) pss_nil)
    (pss_cons (ps_set (i := 2) sc_Field_on.nd rfl (Or.inl rfl) (pe_meth (pv 0) T.cl_Field T.m_Field_players_on G_Field_players_on (hr.mono (by decide)) T.b_Field_players_on .nil pass0 (pa_cons (pv 1) pa_nil)))
    (pss_one (ps_ret (pe_lst (pa_cons (pe_callB call_lenP (by rfl) T.no_len PySem.boot_len (pa_cons (pv 2) pa_nil)) (pa_cons (pe_call G_as_bits (hr.mono (by decide)) rfl T.m_as_bits T.F_as_bits.kp T.b_as_bits .nil pass0 (pa_cons (pv 2) pa_nil)) pa_nil)))))))
def t_Field_card (K : PySem.W.Frag) (a : Ad) : TS :=
  (tSeq (tIfS (tOr (tB (tGt (tVar 1) (tC (.int 1)))) (tOr (tB (tGe (tVar 2) (tC (.int 18)))) (tB (tGt (tVar 3) (tC (.int 1)))))) (tRet (tC (.int (-22)))) tNext)
    (tSeq (tIfS (tTest (tOp rEq (tOp rIxP (tOp rIxP (tFld K (tVar 0) "places") (tVar 1)) (tVar 2)) (tC (.int 4)))) (tRet (tC (.int (-4)))) tNext)
    (tSeq (tIfS (tAnd (tTest (tOp rEq (tVar 3) (tC (.int 0)))) (tNot (tB (tOp rIxP (tOp rIxP (tFld K (tVar 0) "booked") (tVar 1)) (tVar 2))))) (tSeq (tAsg (tC (.bl true)) (gSub (tOp rIxP (tFld K (tVar 0) "booked") (tVar 1)) (tVar 2) rSetL))
    (tRet (tC (.int 0)))) tNext)
    (tSeq (tAsg (tC (.int 4)) (gSub (tOp rIxP (tFld K (tVar 0) "places") (tVar 1)) (tVar 2) rSetL))
    (tRet (tC (.int 1)))))))
theorem b_Field_card {cdv : Value} {A : Around} {outer : List Env} {s : Shared} {H : Hp} {E : XK} (T : Txt K mg a) (hr : Room 0 (A.deeper (envOfC "Field.card" (defScope st_Field_card) s.heap.objs.size a.f_Field_card cdv))) :
    PSs (cxOf CX0 P w K mg base ["self", "team", "player", "colour"] "Field.card" (defScope st_Field_card) a.f_Field_card cdv A outer s H E).nox (defBody st_Field_card) (t_Field_card K a) :=
  (pss_cons (ps_if (PW.pt (pw_or (pt_cmp (pc_gt (pv 1) (pe_gc rfl T.g_LAST_TEAM))) (pw_or (pt_cmp (pc_ge (pv 2) (pe_gc rfl T.g_PLAYERS))) (pw_or1 (pt_cmp (pc_gt (pv 3) (pe_gc rfl T.g_RED))))))) (pss_one (ps_ret (pe_gc rfl T.g_OUT_OF_RANGE))) pss_nil)
    (pss_cons (ps_if (pt_cmpR op_eq (pe_ix ix_listP (pe_ix ix_listP (pe_fld (pv 0) rfl) (pv 1) (fun _ _ => rfl)) (pv 2) (fun _ _ => rfl)) (pe_gc rfl T.g_SENT_OFF) (nomark _)) (pss_one (ps_ret (pe_gc rfl T.g_WAS_SENT_OFF))) pss_nil)
    (pss_cons (ps_if (PW.pt (pw_and (pt_cmpR op_eq (pv 3) (pe_gc rfl T.g_YELLOW) (nomark _)) (pw_and1 (pt_not (pt_val (pe_ix ix_listP (pe_ix ix_listP (pe_fld (pv 0) rfl) (pv 1) (fun _ _ => rfl)) (pv 2) (fun _ _ => rfl))))))) (pss_cons (ps_asg pe_bl (pg_sub (pe_ix ix_listP (pe_fld (pv 0) rfl) (pv 1) (fun _ _ => rfl)) (pv 2) set_list))
    (pss_one (ps_ret pe_int))) pss_nil)
    (pss_cons (ps_asg (pe_gc rfl T.g_SENT_OFF) (pg_sub (pe_ix ix_listP (pe_fld (pv 0) rfl) (pv 1) (fun _ _ => rfl)) (pv 2) set_list))
    (pss_one (ps_ret pe_int))))))
def t_Field_needs_window (K : PySem.W.Frag) (a : Ad) : TS :=
  (tRet (tAndV (tOp rEq (tFld K (tVar 0) "play") (tC (.int 1))) (tNotV (tOp rIxP (tFld K (tVar 0) "in_window") (tVar 1)))))
theorem b_Field_needs_window {cdv : Value} {A : Around} {outer : List Env} {s : Shared} {H : Hp} {E : XK} (T : Txt K mg a) (hr : Room 0 (A.deeper (envOfC "Field.needs_window" (defScope st_Field_needs_window) s.heap.objs.size a.f_Field_needs_window cdv))) :
    PSs (cxOf CX0 P w K mg base ["self", "team"] "Field.needs_window" (defScope st_Field_needs_window) a.f_Field_needs_window cdv A outer s H E).nox (defBody st_Field_needs_window) (t_Field_needs_window K a) :=
  (pss_one (ps_ret (pe_and (pe_cmpR op_eq (pe_fld (pv 0) rfl) (pe_gc rfl T.g_STANDS) (nomark _)) (pe_one (pe_not (pe_ix ix_listP (pe_fld (pv 0) rfl) (pv 1) (fun _ _ => rfl)))))))
def t_Field_change_refusal (K : PySem.W.Frag) (a : Ad) : TS :=
  (tSeq (tIfS (tOr (tB (tGt (tVar 1) (tC (.int 1)))) (tOr (tB (tGe (tVar 2) (tC (.int 18)))) (tB (tGe (tVar 3) (tC (.int 18)))))) (tRet (tC (.int (-22)))) tNext)
    (tSeq (tIfS (tOr (tB (tVar 4)) (tNot (tB (tMeth a.c_Field "is_standing" (sp_Field_is_standing K a) [] E0 (tVar 0) tNil)))) (tRet (tC (.int (-16)))) tNext)
    (tSeq (tIfS (tNot (tB (tMeth a.c_Field "is_on" (sp_Field_is_on K a) [] E0 (tVar 0) (tCons (tVar 1) (tCons (tVar 2) tNil))))) (tRet (tC (.int (-61)))) tNext)
    (tSeq (tIfS (tTest (tOp rNe (tOp rIxP (tOp rIxP (tFld K (tVar 0) "places") (tVar 1)) (tVar 3)) (tC (.int 2)))) (tRet (tC (.int (-62)))) tNext)
    (tSeq (tIfS (tTest (tOp rEq (tOp rIxP (tFld K (tVar 0) "changes") (tVar 1)) (tC (.int 5)))) (tRet (tC (.int (-28)))) tNext)
    (tSeq (tIfS (tAnd (tB (tMeth a.c_Field "needs_window" (sp_Field_needs_window K a) [] E0 (tVar 0) (tCons (tVar 1) tNil))) (tTest (tOp rEq (tOp rIxP (tFld K (tVar 0) "windows") (tVar 1)) (tC (.int 3))))) (tRet (tC (.int (-29)))) tNext)
    (tRet (tC (.int 0)))))))))
theorem b_Field_change_refusal {cdv : Value} {A : Around} {outer : List Env} {s : Shared} {H : Hp} {E : XK} (T : Txt K mg a) (G_Field_is_standing : FnOk P w K mg base CX0 1 a.f_Field_is_standing a.d_Field_is_standing ["self"] (sp_Field_is_standing K a)) (G_Field_is_on : FnOk P w K mg base CX0 1 a.f_Field_is_on a.d_Field_is_on ["self", "team", "player"] (sp_Field_is_on K a)) (G_Field_needs_window : FnOk P w K mg base CX0 1 a.f_Field_needs_window a.d_Field_needs_window ["self", "team"] (sp_Field_needs_window K a)) (hr : Room 1 (A.deeper (envOfC "Field.change_refusal" (defScope st_Field_change_refusal) s.heap.objs.size a.f_Field_change_refusal cdv))) :
    PSs (cxOf CX0 P w K mg base ["self", "team", "leaving", "coming", "barred"] "Field.change_refusal" (defScope st_Field_change_refusal) a.f_Field_change_refusal cdv A outer s H E).nox (defBody st_Field_change_refusal) (t_Field_change_refusal K a) :=
  (pss_cons (ps_if (PW.pt (pw_or (pt_cmp (pc_gt (pv 1) (pe_gc rfl T.g_LAST_TEAM))) (pw_or (pt_cmp (pc_ge (pv 2) (pe_gc rfl T.g_PLAYERS))) (pw_or1 (pt_cmp (pc_ge (pv 3) (pe_gc rfl T.g_PLAYERS))))))) (pss_one (ps_ret (pe_gc rfl T.g_OUT_OF_RANGE))) pss_nil)
    (pss_cons (ps_if (PW.pt (pw_or (pt_val (pv 4)) (pw_or1 (pt_not (pt_val (pe_meth0 (pv 0) T.cl_Field T.m_Field_is_standing G_Field_is_standing (hr.mono (by decide)) T.b_Field_is_standing .nil pass0)))))) (pss_one (ps_ret (pe_gc rfl T.g_NOT_NOW))) pss_nil)
    (pss_cons (ps_if (pt_not (pt_val (pe_meth (pv 0) T.cl_Field T.m_Field_is_on G_Field_is_on (hr.mono (by decide)) T.b_Field_is_on .nil pass0 (pa_cons (pv 1) (pa_cons (pv 2) pa_nil))))) (pss_one (ps_ret (pe_gc rfl T.g_NOT_ON))) pss_nil)
    (pss_cons (ps_if (pt_cmpR op_ne (pe_ix ix_listP (pe_ix ix_listP (pe_fld (pv 0) rfl) (pv 1) (fun _ _ => rfl)) (pv 3) (fun _ _ => rfl)) (pe_gc rfl T.g_BENCH) (nomark _)) (pss_one (ps_ret (pe_gc rfl T.g_NOT_ON_BENCH))) pss_nil)
    (pss_cons (ps_if (pt_cmpR op_eq (pe_ix ix_listP (pe_fld (pv 0) rfl) (pv 1) (fun _ _ => rfl)) (pe_gc rfl T.g_MOST_CHANGES) (nomark _)) (pss_one (ps_ret (pe_gc rfl T.g_USED_UP))) pss_nil)
    (pss_cons (ps_if (PW.pt (pw_and (pt_val (pe_meth (pv 0) T.cl_Field T.m_Field_needs_window G_Field_needs_window (hr.mono (by decide)) T.b_Field_needs_window .nil pass0 (pa_cons (pv 1) pa_nil))) (pw_and1 (pt_cmpR op_eq (pe_ix ix_listP (pe_fld (pv 0) rfl) (pv 1) (fun _ _ => rfl)) (pe_gc rfl T.g_MOST_WINDOWS) (nomark _))))) (pss_one (ps_ret (pe_gc rfl T.g_NO_WINDOW))) pss_nil)
    (pss_one (ps_ret pe_int))))))))
def t_Field_take_window (K : PySem.W.Frag) (a : Ad) : TS :=
  (tIfS (tB (tMeth a.c_Field "needs_window" (sp_Field_needs_window K a) [] E0 (tVar 0) (tCons (tVar 1) tNil))) (tSeq (tAsg (tC (.bl true)) (gSub (tFld K (tVar 0) "in_window") (tVar 1) rSetL))
    (tAugS (tFld K (tVar 0) "windows") (tVar 1) (tC (.int 1)) rIxP (ipI fun i j => i + j) rSetL)) tNext)
theorem b_Field_take_window {cdv : Value} {A : Around} {outer : List Env} {s : Shared} {H : Hp} {E : XK} (T : Txt K mg a) (G_Field_needs_window : FnOk P w K mg base CX0 1 a.f_Field_needs_window a.d_Field_needs_window ["self", "team"] (sp_Field_needs_window K a)) (hr : Room 1 (A.deeper (envOfC "Field.take_window" (defScope st_Field_take_window) s.heap.objs.size a.f_Field_take_window cdv))) :
    PSs (cxOf CX0 P w K mg base ["self", "team"] "Field.take_window" (defScope st_Field_take_window) a.f_Field_take_window cdv A outer s H E).nox (defBody st_Field_take_window) (t_Field_take_window K a) :=
  (pss_one (ps_if (pt_val (pe_meth (pv 0) T.cl_Field T.m_Field_needs_window G_Field_needs_window (hr.mono (by decide)) T.b_Field_needs_window .nil pass0 (pa_cons (pv 1) pa_nil))) (pss_cons (ps_asg pe_bl (pg_sub (pe_fld (pv 0) rfl) (pv 1) set_list))
    (pss_one (ps_augS (pe_fld (pv 0) rfl) (pv 1) get_listP pe_int ip_add set_list))) pss_nil))
def t_Field_change (K : PySem.W.Frag) (a : Ad) : TS :=
  (tSeq (tAsg (tMeth a.c_Field "change_refusal" (sp_Field_change_refusal K a) [] E0 (tVar 0) (tCons (tVar 1) (tCons (tVar 2) (tCons (tVar 3) (tCons (tVar 4) tNil))))) (gName 5))
    (tSeq (tIfS (tB (tLt (tVar 5) (tC (.int 0)))) (tRet (tVar 5)) tNext)
    (tSeq (tDrop (tMeth a.c_Field "take_window" (sp_Field_take_window K a) [] E0 (tVar 0) (tCons (tVar 1) tNil)))
    (tSeq (tAsg (tC (.int 3)) (gSub (tOp rIxP (tFld K (tVar 0) "places") (tVar 1)) (tVar 2) rSetL))
    (tSeq (tAsg (tC (.int 1)) (gSub (tOp rIxP (tFld K (tVar 0) "places") (tVar 1)) (tVar 3) rSetL))
    (tSeq (tAugS (tFld K (tVar 0) "changes") (tVar 1) (tC (.int 1)) rIxP (ipI fun i j => i + j) rSetL)
    (tRet (tSub (tC (.int 5)) (tOp rIxP (tFld K (tVar 0) "changes") (tVar 1))))))))))
theorem b_Field_change {cdv : Value} {A : Around} {outer : List Env} {s : Shared} {H : Hp} {E : XK} (T : Txt K mg a) (G_Field_change_refusal : FnOk P w K mg base CX0 2 a.f_Field_change_refusal a.d_Field_change_refusal ["self", "team", "leaving", "coming", "barred"] (sp_Field_change_refusal K a)) (G_Field_take_window : FnOk P w K mg base CX0 2 a.f_Field_take_window a.d_Field_take_window ["self", "team"] (sp_Field_take_window K a)) (hr : Room 2 (A.deeper (envOfC "Field.change" (defScope st_Field_change) s.heap.objs.size a.f_Field_change cdv))) :
    PSs (cxOf CX0 P w K mg base ["self", "team", "leaving", "coming", "barred", "refusal"] "Field.change" (defScope st_Field_change) a.f_Field_change cdv A outer s H E).nox (defBody st_Field_change) (t_Field_change K a) :=
  (pss_cons (ps_set (i := 5) sc_Field_change.nd rfl (Or.inl rfl) (pe_meth (pv 0) T.cl_Field T.m_Field_change_refusal G_Field_change_refusal (hr.mono (by decide)) T.b_Field_change_refusal .nil pass0 (pa_cons (pv 1) (pa_cons (pv 2) (pa_cons (pv 3) (pa_cons (pv 4) pa_nil))))))
    (pss_cons (ps_if (pt_cmp (pc_lt (pv 5) pe_int)) (pss_one (ps_ret (pv 5))) pss_nil)
    (pss_cons (ps_expr (pe_meth (pv 0) T.cl_Field T.m_Field_take_window G_Field_take_window (hr.mono (by decide)) T.b_Field_take_window .nil pass0 (pa_cons (pv 1) pa_nil)))
    (pss_cons (ps_asg (pe_gc rfl T.g_OUT) (pg_sub (pe_ix ix_listP (pe_fld (pv 0) rfl) (pv 1) (fun _ _ => rfl)) (pv 2) set_list))
    (pss_cons (ps_asg (pe_gc rfl T.g_ON_field) (pg_sub (pe_ix ix_listP (pe_fld (pv 0) rfl) (pv 1) (fun _ _ => rfl)) (pv 3) set_list))
    (pss_cons (ps_augS (pe_fld (pv 0) rfl) (pv 1) get_listP pe_int ip_add set_list)
    (pss_one (ps_ret (pe_sub (pe_gc rfl T.g_MOST_CHANGES) (pe_ix ix_listP (pe_fld (pv 0) rfl) (pv 1) (fun _ _ => rfl)))))))))))
def t_Field_goal (K : PySem.W.Frag) (a : Ad) : TS :=
  (tSeq (tIfS (tOr (tB (tGt (tVar 1) (tC (.int 1)))) (tOr (tB (tGe (tVar 2) (tC (.int 18)))) (tB (tGt (tVar 3) (tC (.int 1)))))) (tRet (tC (.int (-22)))) tNext)
    (tSeq (tIfS (tB (tMeth a.c_Field "is_standing" (sp_Field_is_standing K a) [] E0 (tVar 0) tNil)) (tRet (tC (.int (-16)))) tNext)
    (tSeq (tIfS (tNot (tB (tMeth a.c_Field "is_on" (sp_Field_is_on K a) [] E0 (tVar 0) (tCons (tVar 1) (tCons (tVar 2) tNil))))) (tRet (tC (.int (-61)))) tNext)
    (tSeq (tAsg (tIf (tTest (tOp rEq (tVar 3) (tC (.int 1)))) (tCall (sp_other K a) [] E0 (tCons (tVar 1) tNil)) (tVar 1)) (gName 4))
    (tSeq (tIfS (tTest (tOp rEq (tOp rIxP (tFld K (tVar 0) "scored") (tVar 4)) (tC (.int 1000000)))) (tRet (tC (.int (-28)))) tNext)
    (tSeq (tAugS (tFld K (tVar 0) "scored") (tVar 4) (tC (.int 1)) rIxP (ipI fun i j => i + j) rSetL)
    (tRet (tOp rIxP (tFld K (tVar 0) "scored") (tVar 4)))))))))
theorem b_Field_goal {cdv : Value} {A : Around} {outer : List Env} {s : Shared} {H : Hp} {E : XK} (T : Txt K mg a) (G_Field_is_standing : FnOk P w K mg base CX0 1 a.f_Field_is_standing a.d_Field_is_standing ["self"] (sp_Field_is_standing K a)) (G_Field_is_on : FnOk P w K mg base CX0 1 a.f_Field_is_on a.d_Field_is_on ["self", "team", "player"] (sp_Field_is_on K a)) (G_other : FnOk P w K mg base CX0 1 a.f_other a.d_other ["team"] (sp_other K a)) (hr : Room 1 (A.deeper (envOfC "Field.goal" (defScope st_Field_goal) s.heap.objs.size a.f_Field_goal cdv))) :
    PSs (cxOf CX0 P w K mg base ["self", "team", "player", "own", "scorer"] "Field.goal" (defScope st_Field_goal) a.f_Field_goal cdv A outer s H E).nox (defBody st_Field_goal) (t_Field_goal K a) :=
  (pss_cons (ps_if (PW.pt (pw_or (pt_cmp (pc_gt (pv 1) (pe_gc rfl T.g_LAST_TEAM))) (pw_or (pt_cmp (pc_ge (pv 2) (pe_gc rfl T.g_PLAYERS))) (pw_or1 (pt_cmp (pc_gt (pv 3) pe_int)))))) (pss_one (ps_ret (pe_gc rfl T.g_OUT_OF_RANGE))) pss_nil)
    (pss_cons (ps_if (pt_val (pe_meth0 (pv 0) T.cl_Field T.m_Field_is_standing G_Field_is_standing (hr.mono (by decide)) T.b_Field_is_standing .nil pass0)) (pss_one (ps_ret (pe_gc rfl T.g_NOT_NOW))) pss_nil)
    (pss_cons (ps_if (pt_not (pt_val (pe_meth (pv 0) T.cl_Field T.m_Field_is_on G_Field_is_on (hr.mono (by decide)) T.b_Field_is_on .nil pass0 (pa_cons (pv 1) (pa_cons (pv 2) pa_nil))))) (pss_one (ps_ret (pe_gc rfl T.g_NOT_ON))) pss_nil)
    (pss_cons (ps_set (i := 4) sc_Field_goal.nd rfl (Or.inl rfl) (pe_ifExp (pt_cmpR op_eq (pv 3) pe_int (nomark _)) (pe_call G_other (hr.mono (by decide)) rfl T.m_other T.F_other.kp T.b_other .nil pass0 (pa_cons (pv 1) pa_nil)) (pv 1)))
    (pss_cons (ps_if (pt_cmpR op_eq (pe_ix ix_listP (pe_fld (pv 0) rfl) (pv 4) (fun _ _ => rfl)) (pe_gc rfl T.g_MOST_GOALS) (nomark _)) (pss_one (ps_ret (pe_gc rfl T.g_USED_UP))) pss_nil)
    (pss_cons (ps_augS (pe_fld (pv 0) rfl) (pv 4) get_listP pe_int ip_add set_list)
    (pss_one (ps_ret (pe_ix ix_listP (pe_fld (pv 0) rfl) (pv 4) (fun _ _ => rfl))))))))))
def t_Kicks_init (K : PySem.W.Frag) (a : Ad) : TS :=
  (tSeq (sFld K (tVar 0) (tVar 1) "turn")
    (tSeq (sFld K (tVar 0) (tLst (tCons (tC (.int 0)) (tCons (tC (.int 0)) tNil))) "taken")
    (tSeq (sFld K (tVar 0) (tLst (tCons (tC (.int 0)) (tCons (tC (.int 0)) tNil))) "hits")
    (sFld K (tVar 0) (tLst (tCons (tLst tNil) (tCons (tLst tNil) tNil))) "in_round"))))
theorem b_Kicks_init {cdv : Value} {A : Around} {outer : List Env} {s : Shared} {H : Hp} {E : XK} (T : Txt K mg a) (hr : Room 0 (A.deeper (envOfC "Kicks.__init__" (defScope st_Kicks_init) s.heap.objs.size a.f_Kicks_init cdv))) :
    PSs (cxOf CX0 P w K mg base ["self", "beginner"] "Kicks.__init__" (defScope st_Kicks_init) a.f_Kicks_init cdv A outer s H E).nox (defBody st_Kicks_init) (t_Kicks_init K a) :=
  (pss_cons (ps_fld (pv 0) (pv 1) rfl)
    (pss_cons (ps_fld (pv 0) (pe_lst (pa_cons pe_int (pa_cons pe_int pa_nil))) rfl)
    (pss_cons (ps_fld (pv 0) (pe_lst (pa_cons pe_int (pa_cons pe_int pa_nil))) rfl)
    (pss_one (ps_fld (pv 0) (pe_lst (pa_cons (pe_lst pa_nil) (pa_cons (pe_lst pa_nil) pa_nil))) rfl)))))
def t_Kicks_all_taken (K : PySem.W.Frag) (a : Ad) : TS :=
  (tRet (tOp rEq (tAdd (tOp rIxP (tFld K (tVar 0) "taken") (tC (.int 0))) (tOp rIxP (tFld K (tVar 0) "taken") (tC (.int 1)))) (tC (.int 1000000))))
theorem b_Kicks_all_taken {cdv : Value} {A : Around} {outer : List Env} {s : Shared} {H : Hp} {E : XK} (T : Txt K mg a) (hr : Room 0 (A.deeper (envOfC "Kicks.all_taken" (defScope st_Kicks_all_taken) s.heap.objs.size a.f_Kicks_all_taken cdv))) :
    PSs (cxOf CX0 P w K mg base ["self"] "Kicks.all_taken" (defScope st_Kicks_all_taken) a.f_Kicks_all_taken cdv A outer s H E).nox (defBody st_Kicks_all_taken) (t_Kicks_all_taken K a) :=
  (pss_one (ps_ret (pe_cmpR op_eq (pe_add (pe_ix ix_listP (pe_fld (pv 0) rfl) pe_int (fun _ _ => rfl)) (pe_ix ix_listP (pe_fld (pv 0) rfl) pe_int (fun _ _ => rfl))) (pe_gc rfl T.g_MOST_KICKS) (nomark _))))
def t_Kicks_round_is_done (K : PySem.W.Frag) (a : Ad) : TS :=
  (tRet (tCB rAllP (tCons (tLc (iList K (tVar 1)) (gName 2) tYes (tOp rInP (tVar 2) (tOp rIxP (tFld K (tVar 0) "in_round") (tFld K (tVar 0) "turn"))) [2]) tNil)))
def compScope_Kicks_round_is_done : Scope := match defBody st_Kicks_round_is_done with
  | [.Return (some (.ListComp _ _ sc _)) _] => sc
  | [.Return (some (.Call _ [.ListComp _ _ sc _] _ _)) _] => sc
  | _ => defScope st_Kicks_round_is_done
theorem BLK_Kicks_round_is_done : BlkOk ["self", "players_on", "player"] (defScope st_Kicks_round_is_done) compScope_Kicks_round_is_done [("player", 2)] := ⟨rfl, by decide +kernel, by decide +kernel, by decide +kernel, by decide +kernel⟩
theorem b_Kicks_round_is_done {cdv : Value} {A : Around} {outer : List Env} {s : Shared} {H : Hp} {E : XK} (T : Txt K mg a) (hr : Room 0 (A.deeper (envOfC "Kicks.round_is_done" (defScope st_Kicks_round_is_done) s.heap.objs.size a.f_Kicks_round_is_done cdv))) :
    PSs (cxOf CX0 P w K mg base ["self", "players_on", "player"] "Kicks.round_is_done" (defScope st_Kicks_round_is_done) a.f_Kicks_round_is_done cdv A outer s H E).nox (defBody st_Kicks_round_is_done) (t_Kicks_round_is_done K a) :=
  (pss_one (ps_ret (pe_callB (call_allP rfl) (by rfl) T.no_all boot_all (pa_cons (pe_lc (own := [("player", 2)]) rfl sc_Kicks_round_is_done.nd (pi_list (pv 1)) BLK_Kicks_round_is_done (fun _ _ _ _ _ => pg_name (i := 2) sc_Kicks_round_is_done.nd rfl (Or.inl rfl)) (fun _ _ _ _ _ => pts_nil) (fun _ _ _ _ _ => (pe_cmpR op_inP (pv 2) (pe_ix ix_listP (pe_fld (pv 0) rfl) (pe_fld (pv 0) rfl) (fun _ _ => rfl)) (by with_unfolding_all rfl)))) pa_nil))))
def t_Kicks_must_wait (K : PySem.W.Frag) (a : Ad) : TS :=
  (tRet (tAndV (tOp rInP (tVar 1) (tOp rIxP (tFld K (tVar 0) "in_round") (tFld K (tVar 0) "turn"))) (tNotV (tMeth a.c_Kicks "round_is_done" (sp_Kicks_round_is_done K a) [] E0 (tVar 0) (tCons (tVar 2) tNil)))))
theorem b_Kicks_must_wait {cdv : Value} {A : Around} {outer : List Env} {s : Shared} {H : Hp} {E : XK} (T : Txt K mg a) (G_Kicks_round_is_done : FnOk P w K mg base CX0 1 a.f_Kicks_round_is_done a.d_Kicks_round_is_done ["self", "players_on"] (sp_Kicks_round_is_done K a)) (hr : Room 1 (A.deeper (envOfC "Kicks.must_wait" (defScope st_Kicks_must_wait) s.heap.objs.size a.f_Kicks_must_wait cdv))) :
    PSs (cxOf CX0 P w K mg base ["self", "player", "players_on"] "Kicks.must_wait" (defScope st_Kicks_must_wait) a.f_Kicks_must_wait cdv A outer s H E).nox (defBody st_Kicks_must_wait) (t_Kicks_must_wait K a) :=
  (pss_one (ps_ret (pe_and (pe_cmpR op_inP (pv 1) (pe_ix ix_listP (pe_fld (pv 0) rfl) (pe_fld (pv 0) rfl) (fun _ _ => rfl)) (by with_unfolding_all rfl)) (pe_one (pe_not (pe_meth (pv 0) T.cl_Kicks T.m_Kicks_round_is_done G_Kicks_round_is_done (hr.mono (by decide)) T.b_Kicks_round_is_done .nil pass0 (pa_cons (pv 2) pa_nil)))))))
def t_Kicks_left (K : PySem.W.Frag) (a : Ad) : TS :=
  (tSeq (tIfS (tB (tLt (tCB rMinP (tCons (tFld K (tVar 0) "taken") tNil)) (tC (.int 5)))) (tRet (tSub (tC (.int 5)) (tOp rIxP (tFld K (tVar 0) "taken") (tVar 1)))) tNext)
    (tRet (tCB rMaxI (tCons (tSub (tOp rIxP (tFld K (tVar 0) "taken") (tCall (sp_other K a) [] E0 (tCons (tVar 1) tNil))) (tOp rIxP (tFld K (tVar 0) "taken") (tVar 1))) (tCons (tC (.int 0)) tNil)))))
theorem b_Kicks_left {cdv : Value} {A : Around} {outer : List Env} {s : Shared} {H : Hp} {E : XK} (T : Txt K mg a) (G_other : FnOk P w K mg base CX0 1 a.f_other a.d_other ["team"] (sp_other K a)) (hr : Room 1 (A.deeper (envOfC "Kicks.left" (defScope st_Kicks_left) s.heap.objs.size a.f_Kicks_left cdv))) :
    PSs (cxOf CX0 P w K mg base ["self", "team"] "Kicks.left" (defScope st_Kicks_left) a.f_Kicks_left cdv A outer s H E).nox (defBody st_Kicks_left) (t_Kicks_left K a) :=
  (pss_cons (ps_if (pt_cmp (pc_lt (pe_callB (call_minP rfl) (by rfl) T.no_min boot_min (pa_cons (pe_fld (pv 0) rfl) pa_nil)) (pe_gc rfl T.g_KICKS_EACH))) (pss_one (ps_ret (pe_sub (pe_gc rfl T.g_KICKS_EACH) (pe_ix ix_listP (pe_fld (pv 0) rfl) (pv 1) (fun _ _ => rfl))))) pss_nil)
    (pss_one (ps_ret (pe_callB (call_maxI rfl) (by rfl) T.no_max boot_max (pa_cons (pe_sub (pe_ix ix_listP (pe_fld (pv 0) rfl) (pe_call G_other (hr.mono (by decide)) rfl T.m_other T.F_other.kp T.b_other .nil pass0 (pa_cons (pv 1) pa_nil)) (fun _ _ => rfl)) (pe_ix ix_listP (pe_fld (pv 0) rfl) (pv 1) (fun _ _ => rfl))) (pa_cons pe_int pa_nil))))))
def t_Kicks_decided_for (K : PySem.W.Frag) (a : Ad) : TS :=
  (tSeq (tFor (iTup K (tTup (tCons (tC (.int 0)) (tCons (tC (.int 1)) tNil)))) (gName 1)
    (tSeq (tAsg (tCall (sp_other K a) [] E0 (tCons (tVar 1) tNil)) (gName 2))
    (tIfS (tB (tGt (tOp rIxP (tFld K (tVar 0) "hits") (tVar 1)) (tAdd (tOp rIxP (tFld K (tVar 0) "hits") (tVar 2)) (tMeth a.c_Kicks "left" (sp_Kicks_left K a) [] E0 (tVar 0) (tCons (tVar 2) tNil))))) (tRet (tCall (sp_won_by K a) [] E0 (tCons (tVar 1) tNil))) tNext)))
    (tRet (tC (.int 0))))
theorem b_Kicks_decided_for {cdv : Value} {A : Around} {outer : List Env} {s : Shared} {H : Hp} {E : XK} (T : Txt K mg a) (G_other : FnOk P w K mg base CX0 1 a.f_other a.d_other ["team"] (sp_other K a)) (G_Kicks_left : FnOk P w K mg base CX0 2 a.f_Kicks_left a.d_Kicks_left ["self", "team"] (sp_Kicks_left K a)) (G_won_by : FnOk P w K mg base CX0 1 a.f_won_by a.d_won_by ["team"] (sp_won_by K a)) (hr : Room 2 (A.deeper (envOfC "Kicks.decided_for" (defScope st_Kicks_decided_for) s.heap.objs.size a.f_Kicks_decided_for cdv))) :
    PSs (cxOf CX0 P w K mg base ["self", "team", "rival"] "Kicks.decided_for" (defScope st_Kicks_decided_for) a.f_Kicks_decided_for cdv A outer s H E).nox (defBody st_Kicks_decided_for) (t_Kicks_decided_for K a) :=
  (pss_cons (ps_for PassesOwn.never rfl (pi_tup (pe_tup (pa_cons pe_int (pa_cons pe_int pa_nil)))) (pg_name (i := 1) sc_Kicks_decided_for.nd rfl (Or.inl rfl))
    (pss_cons (ps_set (i := 2) sc_Kicks_decided_for.nd rfl (Or.inl rfl) (pe_call G_other (hr.mono (by decide)) rfl T.m_other T.F_other.kp T.b_other .nil pass0 (pa_cons (pv 1) pa_nil)))
    (pss_one (ps_if (pt_cmp (pc_gt (pe_ix ix_listP (pe_fld (pv 0) rfl) (pv 1) (fun _ _ => rfl)) (pe_add (pe_ix ix_listP (pe_fld (pv 0) rfl) (pv 2) (fun _ _ => rfl)) (pe_meth (pv 0) T.cl_Kicks T.m_Kicks_left G_Kicks_left (hr.mono (by decide)) T.b_Kicks_left .nil pass0 (pa_cons (pv 2) pa_nil))))) (pss_one (ps_ret (pe_call G_won_by (hr.mono (by decide)) rfl T.m_won_by T.F_won_by.kp T.b_won_by .nil pass0 (pa_cons (pv 1) pa_nil)))) pss_nil))))
    (pss_one (ps_ret (pe_gc rfl T.g_NOBODY))))
def t_Kicks_take (K : PySem.W.Frag) (a : Ad) : TS :=
  (tSeq (tAsg (tFld K (tVar 0) "turn") (gName 4))
    (tSeq (tIfS (tB (tMeth a.c_Kicks "round_is_done" (sp_Kicks_round_is_done K a) [] E0 (tVar 0) (tCons (tVar 3) tNil))) (tAsg (tLst tNil) (gSub (tFld K (tVar 0) "in_round") (tVar 4) rSetL)) tNext)
    (tSeq (tDrop (tBM K "list" rAppend (tOp rIxP (tFld K (tVar 0) "in_round") (tVar 4)) (tCons (tVar 1) tNil)))
    (tSeq (tAugS (tFld K (tVar 0) "taken") (tVar 4) (tC (.int 1)) rIxP (ipI fun i j => i + j) rSetL)
    (tSeq (tAugS (tFld K (tVar 0) "hits") (tVar 4) (tVar 2) rIxP (ipI fun i j => i + j) rSetL)
    (tSeq (sFld K (tVar 0) (tCall (sp_other K a) [] E0 (tCons (tVar 4) tNil)) "turn")
    (tRet (tMeth a.c_Kicks "decided_for" (sp_Kicks_decided_for K a) [] E0 (tVar 0) tNil))))))))
theorem b_Kicks_take {cdv : Value} {A : Around} {outer : List Env} {s : Shared} {H : Hp} {E : XK} (T : Txt K mg a) (G_Kicks_round_is_done : FnOk P w K mg base CX0 1 a.f_Kicks_round_is_done a.d_Kicks_round_is_done ["self", "players_on"] (sp_Kicks_round_is_done K a)) (G_other : FnOk P w K mg base CX0 1 a.f_other a.d_other ["team"] (sp_other K a)) (G_Kicks_decided_for : FnOk P w K mg base CX0 3 a.f_Kicks_decided_for a.d_Kicks_decided_for ["self"] (sp_Kicks_decided_for K a)) (hr : Room 3 (A.deeper (envOfC "Kicks.take" (defScope st_Kicks_take) s.heap.objs.size a.f_Kicks_take cdv))) :
    PSs (cxOf CX0 P w K mg base ["self", "player", "scored", "players_on", "team"] "Kicks.take" (defScope st_Kicks_take) a.f_Kicks_take cdv A outer s H E).nox (defBody st_Kicks_take) (t_Kicks_take K a) :=
  (pss_cons (ps_set (i := 4) sc_Kicks_take.nd rfl (Or.inl rfl) (pe_fld (pv 0) rfl))
    (pss_cons (ps_if (pt_val (pe_meth (pv 0) T.cl_Kicks T.m_Kicks_round_is_done G_Kicks_round_is_done (hr.mono (by decide)) T.b_Kicks_round_is_done .nil pass0 (pa_cons (pv 3) pa_nil))) (pss_one (ps_asg (pe_lst pa_nil) (pg_sub (pe_fld (pv 0) rfl) (pv 4) set_list))) pss_nil)
    (pss_cons (ps_expr (pe_bm PySem.F.plainAttrs_list PySem.F.slot_list_append PySem.F.type_list_append mt_append (pe_ix ix_listP (pe_fld (pv 0) rfl) (pv 4) (fun _ _ => rfl)) (pa_cons (pv 1) pa_nil)))
    (pss_cons (ps_augS (pe_fld (pv 0) rfl) (pv 4) get_listP pe_int ip_add set_list)
    (pss_cons (ps_augS (pe_fld (pv 0) rfl) (pv 4) get_listP (pv 2) ip_add set_list)
    (pss_cons (ps_fld (pv 0) (pe_call G_other (hr.mono (by decide)) rfl T.m_other T.F_other.kp T.b_other .nil pass0 (pa_cons (pv 4) pa_nil)) rfl)
    (pss_one (ps_ret (pe_meth0 (pv 0) T.cl_Kicks T.m_Kicks_decided_for G_Kicks_decided_for (hr.mono (by decide)) T.b_Kicks_decided_for .nil pass0)))))))))
def t_Game_init (K : PySem.W.Frag) (a : Ad) : TS :=
  (tSeq (sFld K (tVar 0) (tMake a.c_Clock (sp_Clock_init K a) [] E0 (tCons (tVar 1) (tCons (tVar 2) tNil))) "clock")
    (tSeq (sFld K (tVar 0) (tMake a.c_Field (sp_Field_init K a) [] E0 tNil) "field")
    (tSeq (sFld K (tVar 0) (tC (.bl false)) "at_kicks")
    (tSeq (sFld K (tVar 0) (tC .non) "kicks")
    (sFld K (tVar 0) (tC (.int 0)) "winner")))))
theorem b_Game_init {cdv : Value} {A : Around} {outer : List Env} {s : Shared} {H : Hp} {E : XK} (T : Txt K mg a) (G_Clock_init : FnOk P w K mg base CX0 1 a.f_Clock_init a.d_Clock_init ["self", "half", "extra"] (sp_Clock_init K a)) (G_Field_init : FnOk P w K mg base CX0 2 a.f_Field_init a.d_Field_init ["self"] (sp_Field_init K a)) (hr : Room 3 (A.deeper (envOfC "Game.__init__" (defScope st_Game_init) s.heap.objs.size a.f_Game_init cdv))) :
    PSs (cxOf CX0 P w K mg base ["self", "half", "extra"] "Game.__init__" (defScope st_Game_init) a.f_Game_init cdv A outer s H E).nox (defBody st_Game_init) (t_Game_init K a) :=
  (pss_cons (ps_fld (pv 0) (pe_make T.mk_Clock G_Clock_init (hr.mono (by decide)) rfl T.c_Clock T.b_Clock_init .nil pass0 (pa_cons (pv 1) (pa_cons (pv 2) pa_nil))) rfl)
    (pss_cons (ps_fld (pv 0) (pe_make0 T.mk_Field G_Field_init (hr.mono (by decide)) rfl T.c_Field T.b_Field_init .nil pass0) rfl)
    (pss_cons (ps_fld (pv 0) pe_bl rfl)
    (pss_cons (ps_fld (pv 0) pe_non rfl)
    (pss_one (ps_fld (pv 0) (pe_gc rfl T.g_NOBODY) rfl))))))
def t_Game_kick (K : PySem.W.Frag) (a : Ad) : TS :=
  (tSeq (tIfS (tB (tFld K (tVar 0) "at_kicks")) (tRet (tC (.int (-11)))) tNext)
    (tSeq (tAsg (tMeth a.c_Clock "kick" (sp_Clock_kick K a) [] E0 (tFld K (tVar 0) "clock") tNil) (gName 1))
    (tSeq (tIfS (tB (tGt (tVar 1) (tC (.int 0)))) (tDrop (tMeth a.c_Field "set_play" (sp_Field_set_play K a) [] E0 (tFld K (tVar 0) "field") (tCons (tC (.int 0)) tNil))) tNext)
    (tRet (tVar 1)))))
theorem b_Game_kick {cdv : Value} {A : Around} {outer : List Env} {s : Shared} {H : Hp} {E : XK} (T : Txt K mg a) (G_Clock_kick : FnOk P w K mg base CX0 2 a.f_Clock_kick a.d_Clock_kick ["self"] (sp_Clock_kick K a)) (G_Field_set_play : FnOk P w K mg base CX0 1 a.f_Field_set_play a.d_Field_set_play ["self", "play"] (sp_Field_set_play K a)) (hr : Room 2 (A.deeper (envOfC "Game.kick" (defScope st_Game_kick) s.heap.objs.size a.f_Game_kick cdv))) :
    PSs (cxOf CX0 P w K mg base ["self", "answer"] "Game.kick" (defScope st_Game_kick) a.f_Game_kick cdv A outer s H E).nox (defBody st_Game_kick) (t_Game_kick K a) :=
  (pss_cons (ps_if (pt_val (pe_fld (pv 0) rfl)) (pss_one (ps_ret (pe_gc rfl T.g_NO_PERIOD))) pss_nil)
    (pss_cons (ps_set (i := 1) sc_Game_kick.nd rfl (Or.inl rfl) (pe_meth0 (pe_fld (pv 0) rfl) T.cl_Clock T.m_Clock_kick G_Clock_kick (hr.mono (by decide)) T.b_Clock_kick .nil pass0))
    (pss_cons (ps_if (pt_cmp (pc_gt (pv 1) pe_int)) (pss_one (ps_expr (pe_meth (pe_fld (pv 0) rfl) T.cl_Field T.m_Field_set_play G_Field_set_play (hr.mono (by decide)) T.b_Field_set_play .nil pass0 (pa_cons (pe_gc rfl T.g_GOES_ON) pa_nil)))) pss_nil)
    (pss_one (ps_ret (pv 1))))))
def t_Game_tick (K : PySem.W.Frag) (a : Ad) : TS :=
  (tRet (tMeth a.c_Clock "tick" (sp_Clock_tick K a) [] E0 (tFld K (tVar 0) "clock") (tCons (tVar 1) (tCons (tMeth a.c_Field "is_standing" (sp_Field_is_standing K a) [] E0 (tFld K (tVar 0) "field") tNil) tNil))))
theorem b_Game_tick {cdv : Value} {A : Around} {outer : List Env} {s : Shared} {H : Hp} {E : XK} (T : Txt K mg a) (G_Clock_tick : FnOk P w K mg base CX0 1 a.f_Clock_tick a.d_Clock_tick ["self", "seconds", "standing"] (sp_Clock_tick K a)) (G_Field_is_standing : FnOk P w K mg base CX0 1 a.f_Field_is_standing a.d_Field_is_standing ["self"] (sp_Field_is_standing K a)) (hr : Room 1 (A.deeper (envOfC "Game.tick" (defScope st_Game_tick) s.heap.objs.size a.f_Game_tick cdv))) :
    PSs (cxOf CX0 P w K mg base ["self", "seconds"] "Game.tick" (defScope st_Game_tick) a.f_Game_tick cdv A outer s H E).nox (defBody st_Game_tick) (t_Game_tick K a) :=
  (pss_one (ps_ret (pe_meth (pe_fld (pv 0) rfl) T.cl_Clock T.m_Clock_tick G_Clock_tick (hr.mono (by decide)) T.b_Clock_tick .nil pass0 (pa_cons (pv 1) (pa_cons (pe_meth0 (pe_fld (pv 0) rfl) T.cl_Field T.m_Field_is_standing G_Field_is_standing (hr.mono (by decide)) T.b_Field_is_standing .nil pass0) pa_nil)))))
def t_Game_stop (K : PySem.W.Frag) (a : Ad) : TS :=
  (tSeq (tIfS (tB (tGt (tVar 1) (tC (.int 1)))) (tRet (tC (.int (-22)))) tNext)
    (tSeq (tIfS (tNot (tB (tFld K (tFld K (tVar 0) "clock") "running"))) (tRet (tC (.int (-11)))) tNext)
    (tSeq (tIfS (tTest (tOp rEq (tMeth a.c_Field "is_standing" (sp_Field_is_standing K a) [] E0 (tFld K (tVar 0) "field") tNil) (tOp rEq (tVar 1) (tC (.int 1))))) (tRet (tC (.int (-16)))) tNext)
    (tSeq (tDrop (tMeth a.c_Field "set_play" (sp_Field_set_play K a) [] E0 (tFld K (tVar 0) "field") (tCons (tIf (tTest (tOp rEq (tVar 1) (tC (.int 1)))) (tC (.int 1)) (tC (.int 0))) tNil)))
    (tRet (tC (.int 0)))))))
theorem b_Game_stop {cdv : Value} {A : Around} {outer : List Env} {s : Shared} {H : Hp} {E : XK} (T : Txt K mg a) (G_Field_is_standing : FnOk P w K mg base CX0 1 a.f_Field_is_standing a.d_Field_is_standing ["self"] (sp_Field_is_standing K a)) (G_Field_set_play : FnOk P w K mg base CX0 1 a.f_Field_set_play a.d_Field_set_play ["self", "play"] (sp_Field_set_play K a)) (hr : Room 1 (A.deeper (envOfC "Game.stop" (defScope st_Game_stop) s.heap.objs.size a.f_Game_stop cdv))) :
    PSs (cxOf CX0 P w K mg base ["self", "stop"] "Game.stop" (defScope st_Game_stop) a.f_Game_stop cdv A outer s H E).nox (defBody st_Game_stop) (t_Game_stop K a) :=
  (pss_cons (ps_if (pt_cmp (pc_gt (pv 1) pe_int)) (pss_one (ps_ret (pe_gc rfl T.g_OUT_OF_RANGE))) pss_nil)
    (pss_cons (ps_if (pt_not (pt_val (pe_fld (pe_fld (pv 0) rfl) rfl))) (pss_one (ps_ret (pe_gc rfl T.g_NO_PERIOD))) pss_nil)
    (pss_cons (ps_if (pt_cmpR op_eq (pe_meth0 (pe_fld (pv 0) rfl) T.cl_Field T.m_Field_is_standing G_Field_is_standing (hr.mono (by decide)) T.b_Field_is_standing .nil pass0) (pe_cmpR op_eq (pv 1) pe_int (nomark _)) (nomark _)) (pss_one (ps_ret (pe_gc rfl T.g_NOT_NOW))) pss_nil)
    (pss_cons (ps_expr (pe_meth (pe_fld (pv 0) rfl) T.cl_Field T.m_Field_set_play G_Field_set_play (hr.mono (by decide)) T.b_Field_set_play .nil pass0 (pa_cons (pe_ifExp (pt_cmpR op_eq (pv 1) pe_int (nomark _)) (pe_gc rfl T.g_STANDS) (pe_gc rfl T.g_GOES_ON)) pa_nil)))
    (pss_one (ps_ret pe_int))))))
def t_Game_settle (K : PySem.W.Frag) (a : Ad) : TS :=
  (tSeq (tIfS (tTest (tOp rEq (tOp (rI (fun _ j => 0 < j) fun i j => .int (i % j)) (tFld K (tFld K (tVar 0) "clock") "played") (tC (.int 2))) (tC (.int 1)))) tRetN tNext)
    (tSeq (tAsg (tFld K (tFld K (tVar 0) "field") "scored") (gName 1))
    (tIfS (tTest (tOp rNe (tOp rIxP (tVar 1) (tC (.int 0))) (tOp rIxP (tVar 1) (tC (.int 1))))) (sFld K (tVar 0) (tCall (sp_won_by K a) [] E0 (tCons (tIf (tB (tGt (tOp rIxP (tVar 1) (tC (.int 0))) (tOp rIxP (tVar 1) (tC (.int 1))))) (tC (.int 0)) (tC (.int 1))) tNil)) "winner") (tIfS (tB (tMeth a.c_Clock "all_played" (sp_Clock_all_played K a) [] E0 (tFld K (tVar 0) "clock") tNil)) (sFld K (tVar 0) (tC (.bl true)) "at_kicks") tNext))))
theorem b_Game_settle {cdv : Value} {A : Around} {outer : List Env} {s : Shared} {H : Hp} {E : XK} (T : Txt K mg a) (G_won_by : FnOk P w K mg base CX0 1 a.f_won_by a.d_won_by ["team"] (sp_won_by K a)) (G_Clock_all_played : FnOk P w K mg base CX0 1 a.f_Clock_all_played a.d_Clock_all_played ["self"] (sp_Clock_all_played K a)) (hr : Room 1 (A.deeper (envOfC "Game.settle" (defScope st_Game_settle) s.heap.objs.size a.f_Game_settle cdv))) :
    PSs (cxOf CX0 P w K mg base ["self", "scored"] "Game.settle" (defScope st_Game_settle) a.f_Game_settle cdv A outer s H E).nox (defBody st_Game_settle) (t_Game_settle K a) :=
  (pss_cons (ps_if (pt_cmpR op_eq (pe_op op_mod (pe_fld (pe_fld (pv 0) rfl) rfl) pe_int) pe_int (nomark _)) (pss_one ps_retN) pss_nil)
    (pss_cons (ps_set (i := 1) sc_Game_settle.nd rfl (Or.inl rfl) (pe_fld (pe_fld (pv 0) rfl) rfl))
    (pss_one (ps_if (pt_cmpR op_ne (pe_ix ix_listP (pv 1) pe_int (fun _ _ => rfl)) (pe_ix ix_listP (pv 1) pe_int (fun _ _ => rfl)) (nomark _)) (pss_one (ps_fld (pv 0) (pe_call G_won_by (hr.mono (by decide)) rfl T.m_won_by T.F_won_by.kp T.b_won_by .nil pass0 (pa_cons (pe_ifExp (pt_cmp (pc_gt (pe_ix ix_listP (pv 1) pe_int (fun _ _ => rfl)) (pe_ix ix_listP (pv 1) pe_int (fun _ _ => rfl)))) pe_int pe_int) pa_nil)) rfl)) (pss_one (ps_if (pt_val (pe_meth0 (pe_fld (pv 0) rfl) T.cl_Clock T.m_Clock_all_played G_Clock_all_played (hr.mono (by decide)) T.b_Clock_all_played .nil pass0)) (pss_one (ps_fld (pv 0) pe_bl rfl)) pss_nil))))))
def t_Game_whistle (K : PySem.W.Frag) (a : Ad) : TS :=
  (tSeq (tAsg (tMeth a.c_Clock "whistle" (sp_Clock_whistle K a) [] E0 (tFld K (tVar 0) "clock") tNil) (gName 1))
    (tSeq (tIfS (tB (tGt (tVar 1) (tC (.int 0)))) (tSeq (tDrop (tMeth a.c_Field "set_play" (sp_Field_set_play K a) [] E0 (tFld K (tVar 0) "field") (tCons (tC (.int 2)) tNil)))
    (tDrop (tMeth a.c_Game "settle" (sp_Game_settle K a) [] E0 (tVar 0) tNil))) tNext)
    (tRet (tVar 1))))
theorem b_Game_whistle {cdv : Value} {A : Around} {outer : List Env} {s : Shared} {H : Hp} {E : XK} (T : Txt K mg a) (G_Clock_whistle : FnOk P w K mg base CX0 2 a.f_Clock_whistle a.d_Clock_whistle ["self"] (sp_Clock_whistle K a)) (G_Field_set_play : FnOk P w K mg base CX0 1 a.f_Field_set_play a.d_Field_set_play ["self", "play"] (sp_Field_set_play K a)) (G_Game_settle : FnOk P w K mg base CX0 2 a.f_Game_settle a.d_Game_settle ["self"] (sp_Game_settle K a)) (hr : Room 2 (A.deeper (envOfC "Game.whistle" (defScope st_Game_whistle) s.heap.objs.size a.f_Game_whistle cdv))) :
    PSs (cxOf CX0 P w K mg base ["self", "answer"] "Game.whistle" (defScope st_Game_whistle) a.f_Game_whistle cdv A outer s H E).nox (defBody st_Game_whistle) (t_Game_whistle K a) :=
  (pss_cons (ps_set (i := 1) sc_Game_whistle.nd rfl (Or.inl rfl) (pe_meth0 (pe_fld (pv 0) rfl) T.cl_Clock T.m_Clock_whistle G_Clock_whistle (hr.mono (by decide)) T.b_Clock_whistle .nil pass0))
    (pss_cons (ps_if (pt_cmp (pc_gt (pv 1) pe_int)) (pss_cons (ps_expr (pe_meth (pe_fld (pv 0) rfl) T.cl_Field T.m_Field_set_play G_Field_set_play (hr.mono (by decide)) T.b_Field_set_play .nil pass0 (pa_cons (pe_gc rfl T.g_RESTS) pa_nil)))
    (pss_one (ps_expr (pe_meth0 (pv 0) T.cl_Game T.m_Game_settle G_Game_settle (hr.mono (by decide)) T.b_Game_settle .nil pass0)))) pss_nil)
    (pss_one (ps_ret (pv 1)))))
def t_Game_card (K : PySem.W.Frag) (a : Ad) : TS :=
  (tSeq (tAsg (tMeth a.c_Field "card" (sp_Field_card K a) [] E0 (tFld K (tVar 0) "field") (tCons (tVar 1) (tCons (tVar 2) (tCons (tVar 3) tNil)))) (gName 4))
    (tSeq (tIfS (tAnd (tTest (tOp rEq (tVar 4) (tC (.int 1)))) (tB (tMeth a.c_Field "too_few" (sp_Field_too_few K a) [] E0 (tFld K (tVar 0) "field") (tCons (tVar 1) tNil)))) (sFld K (tVar 0) (tCall (sp_won_by K a) [] E0 (tCons (tCall (sp_other K a) [] E0 (tCons (tVar 1) tNil)) tNil)) "winner") tNext)
    (tRet (tVar 4))))
theorem b_Game_card {cdv : Value} {A : Around} {outer : List Env} {s : Shared} {H : Hp} {E : XK} (T : Txt K mg a) (G_Field_card : FnOk P w K mg base CX0 1 a.f_Field_card a.d_Field_card ["self", "team", "player", "colour"] (sp_Field_card K a)) (G_Field_too_few : FnOk P w K mg base CX0 3 a.f_Field_too_few a.d_Field_too_few ["self", "team"] (sp_Field_too_few K a)) (G_won_by : FnOk P w K mg base CX0 1 a.f_won_by a.d_won_by ["team"] (sp_won_by K a)) (G_other : FnOk P w K mg base CX0 1 a.f_other a.d_other ["team"] (sp_other K a)) (hr : Room 3 (A.deeper (envOfC "Game.card" (defScope st_Game_card) s.heap.objs.size a.f_Game_card cdv))) :
    PSs (cxOf CX0 P w K mg base ["self", "team", "player", "colour", "answer"] "Game.card" (defScope st_Game_card) a.f_Game_card cdv A outer s H E).nox (defBody st_Game_card) (t_Game_card K a) :=
  (pss_cons (ps_set (i := 4) sc_Game_card.nd rfl (Or.inl rfl) (pe_meth (pe_fld (pv 0) rfl) T.cl_Field T.m_Field_card G_Field_card (hr.mono (by decide)) T.b_Field_card .nil pass0 (pa_cons (pv 1) (pa_cons (pv 2) (pa_cons (pv 3) pa_nil)))))
    (pss_cons (ps_if (PW.pt (pw_and (pt_cmpR op_eq (pv 4) pe_int (nomark _)) (pw_and1 (pt_val (pe_meth (pe_fld (pv 0) rfl) T.cl_Field T.m_Field_too_few G_Field_too_few (hr.mono (by decide)) T.b_Field_too_few .nil pass0 (pa_cons (pv 1) pa_nil)))))) (pss_one (ps_fld (pv 0) (pe_call G_won_by (hr.mono (by decide)) rfl T.m_won_by T.F_won_by.kp T.b_won_by .nil pass0 (pa_cons (pe_call G_other (hr.mono (by decide)) rfl T.m_other T.F_other.kp T.b_other .nil pass0 (pa_cons (pv 1) pa_nil)) pa_nil)) rfl)) pss_nil)
    (pss_one (ps_ret (pv 4)))))
def t_Game_change (K : PySem.W.Frag) (a : Ad) : TS :=
  (tRet (tMeth a.c_Field "change" (sp_Field_change K a) [] E0 (tFld K (tVar 0) "field") (tCons (tVar 1) (tCons (tVar 2) (tCons (tVar 3) (tCons (tFld K (tVar 0) "at_kicks") tNil))))))
theorem b_Game_change {cdv : Value} {A : Around} {outer : List Env} {s : Shared} {H : Hp} {E : XK} (T : Txt K mg a) (G_Field_change : FnOk P w K mg base CX0 3 a.f_Field_change a.d_Field_change ["self", "team", "leaving", "coming", "barred"] (sp_Field_change K a)) (hr : Room 3 (A.deeper (envOfC "Game.change" (defScope st_Game_change) s.heap.objs.size a.f_Game_change cdv))) :
    PSs (cxOf CX0 P w K mg base ["self", "team", "leaving", "coming"] "Game.change" (defScope st_Game_change) a.f_Game_change cdv A outer s H E).nox (defBody st_Game_change) (t_Game_change K a) :=
  (pss_one (ps_ret (pe_meth (pe_fld (pv 0) rfl) T.cl_Field T.m_Field_change G_Field_change (hr.mono (by decide)) T.b_Field_change .nil pass0 (pa_cons (pv 1) (pa_cons (pv 2) (pa_cons (pv 3) (pa_cons (pe_fld (pv 0) rfl) pa_nil)))))))
def t_Game_goal (K : PySem.W.Frag) (a : Ad) : TS :=
  (tRet (tMeth a.c_Field "goal" (sp_Field_goal K a) [] E0 (tFld K (tVar 0) "field") (tCons (tVar 1) (tCons (tVar 2) (tCons (tVar 3) tNil)))))
theorem b_Game_goal {cdv : Value} {A : Around} {outer : List Env} {s : Shared} {H : Hp} {E : XK} (T : Txt K mg a) (G_Field_goal : FnOk P w K mg base CX0 2 a.f_Field_goal a.d_Field_goal ["self", "team", "player", "own"] (sp_Field_goal K a)) (hr : Room 2 (A.deeper (envOfC "Game.goal" (defScope st_Game_goal) s.heap.objs.size a.f_Game_goal cdv))) :
    PSs (cxOf CX0 P w K mg base ["self", "team", "player", "own"] "Game.goal" (defScope st_Game_goal) a.f_Game_goal cdv A outer s H E).nox (defBody st_Game_goal) (t_Game_goal K a) :=
  (pss_one (ps_ret (pe_meth (pe_fld (pv 0) rfl) T.cl_Field T.m_Field_goal G_Field_goal (hr.mono (by decide)) T.b_Field_goal .nil pass0 (pa_cons (pv 1) (pa_cons (pv 2) (pa_cons (pv 3) pa_nil))))))
def t_Game_first (K : PySem.W.Frag) (a : Ad) : TS :=
  (tSeq (tIfS (tB (tGt (tVar 1) (tC (.int 1)))) (tRet (tC (.int (-22)))) tNext)
    (tSeq (tIfS (tNot (tB (tFld K (tVar 0) "at_kicks"))) (tRet (tC (.int (-11)))) tNext)
    (tSeq (tIfS (tB (tNotN (tFld K (tVar 0) "kicks"))) (tRet (tC (.int (-16)))) tNext)
    (tSeq (sFld K (tVar 0) (tMake a.c_Kicks (sp_Kicks_init K a) [] E0 (tCons (tVar 1) tNil)) "kicks")
    (tRet (tC (.int 0)))))))
theorem b_Game_first {cdv : Value} {A : Around} {outer : List Env} {s : Shared} {H : Hp} {E : XK} (T : Txt K mg a) (G_Kicks_init : FnOk P w K mg base CX0 1 a.f_Kicks_init a.d_Kicks_init ["self", "beginner"] (sp_Kicks_init K a)) (hr : Room 2 (A.deeper (envOfC "Game.first" (defScope st_Game_first) s.heap.objs.size a.f_Game_first cdv))) :
    PSs (cxOf CX0 P w K mg base ["self", "team"] "Game.first" (defScope st_Game_first) a.f_Game_first cdv A outer s H E).nox (defBody st_Game_first) (t_Game_first K a) :=
  (pss_cons (ps_if (pt_cmp (pc_gt (pv 1) (pe_gc rfl T.g_LAST_TEAM))) (pss_one (ps_ret (pe_gc rfl T.g_OUT_OF_RANGE))) pss_nil)
    (pss_cons (ps_if (pt_not (pt_val (pe_fld (pv 0) rfl))) (pss_one (ps_ret (pe_gc rfl T.g_NO_KICKS))) pss_nil)
    (pss_cons (ps_if (pt_cmp (pc_notN (pe_fld (pv 0) rfl))) (pss_one (ps_ret (pe_gc rfl T.g_NOT_NOW))) pss_nil)
    (pss_cons (ps_fld (pv 0) (pe_make T.mk_Kicks G_Kicks_init (hr.mono (by decide)) rfl T.c_Kicks T.b_Kicks_init .nil pass0 (pa_cons (pv 1) pa_nil)) rfl)
    (pss_one (ps_ret pe_int))))))
def t_Game_shoot_refusal (K : PySem.W.Frag) (a : Ad) : TS :=
  (tSeq (tIfS (tOr (tB (tGt (tVar 1) (tC (.int 1)))) (tOr (tB (tGe (tVar 2) (tC (.int 18)))) (tB (tGt (tVar 3) (tC (.int 1)))))) (tRet (tC (.int (-22)))) tNext)
    (tSeq (tIfS (tB (tIsN (tFld K (tVar 0) "kicks"))) (tRet (tC (.int (-11)))) tNext)
    (tSeq (tIfS (tTest (tOp rNe (tFld K (tFld K (tVar 0) "kicks") "turn") (tVar 1))) (tRet (tC (.int (-37)))) tNext)
    (tSeq (tIfS (tNot (tB (tMeth a.c_Field "is_on" (sp_Field_is_on K a) [] E0 (tFld K (tVar 0) "field") (tCons (tVar 1) (tCons (tVar 2) tNil))))) (tRet (tC (.int (-61)))) tNext)
    (tSeq (tIfS (tB (tMeth a.c_Kicks "must_wait" (sp_Kicks_must_wait K a) [] E0 (tFld K (tVar 0) "kicks") (tCons (tVar 2) (tCons (tMeth a.c_Field "players_on" (sp_Field_players_on K a) [] E0 (tFld K (tVar 0) "field") (tCons (tVar 1) tNil)) tNil)))) (tRet (tC (.int (-17)))) tNext)
    (tSeq (tIfS (tB (tMeth a.c_Kicks "all_taken" (sp_Kicks_all_taken K a) [] E0 (tFld K (tVar 0) "kicks") tNil)) (tRet (tC (.int (-28)))) tNext)
    (tRet (tC (.int 0)))))))))
theorem b_Game_shoot_refusal {cdv : Value} {A : Around} {outer : List Env} {s : Shared} {H : Hp} {E : XK} (T : Txt K mg a) (G_Field_is_on : FnOk P w K mg base CX0 1 a.f_Field_is_on a.d_Field_is_on ["self", "team", "player"] (sp_Field_is_on K a)) (G_Kicks_must_wait : FnOk P w K mg base CX0 2 a.f_Kicks_must_wait a.d_Kicks_must_wait ["self", "player", "players_on"] (sp_Kicks_must_wait K a)) (G_Field_players_on : FnOk P w K mg base CX0 2 a.f_Field_players_on a.d_Field_players_on ["self", "team"] (sp_Field_players_on K a)) (G_Kicks_all_taken : FnOk P w K mg base CX0 1 a.f_Kicks_all_taken a.d_Kicks_all_taken ["self"] (sp_Kicks_all_taken K a)) (hr : Room 2 (A.deeper (envOfC "Game.shoot_refusal" (defScope st_Game_shoot_refusal) s.heap.objs.size a.f_Game_shoot_refusal cdv))) :
    PSs (cxOf CX0 P w K mg base ["self", "team", "player", "scored"] "Game.shoot_refusal" (defScope st_Game_shoot_refusal) a.f_Game_shoot_refusal cdv A outer s H E).nox (defBody st_Game_shoot_refusal) (t_Game_shoot_refusal K a) :=
  (pss_cons (ps_if (PW.pt (pw_or (pt_cmp (pc_gt (pv 1) (pe_gc rfl T.g_LAST_TEAM))) (pw_or (pt_cmp (pc_ge (pv 2) (pe_gc rfl T.g_PLAYERS))) (pw_or1 (pt_cmp (pc_gt (pv 3) pe_int)))))) (pss_one (ps_ret (pe_gc rfl T.g_OUT_OF_RANGE))) pss_nil)
    (pss_cons (ps_if (pt_cmp (pc_isN (pe_fld (pv 0) rfl))) (pss_one (ps_ret (pe_gc rfl T.g_NO_KICKS))) pss_nil)
    (pss_cons (ps_if (pt_cmpR op_ne (pe_fld (pe_fld (pv 0) rfl) rfl) (pv 1) (nomark _)) (pss_one (ps_ret (pe_gc rfl T.g_NOT_THEIR_TURN))) pss_nil)
    (pss_cons (ps_if (pt_not (pt_val (pe_meth (pe_fld (pv 0) rfl) T.cl_Field T.m_Field_is_on G_Field_is_on (hr.mono (by decide)) T.b_Field_is_on .nil pass0 (pa_cons (pv 1) (pa_cons (pv 2) pa_nil))))) (pss_one (ps_ret (pe_gc rfl T.g_NOT_ON))) pss_nil)
    (pss_cons (ps_if (pt_val (pe_meth (pe_fld (pv 0) rfl) T.cl_Kicks T.m_Kicks_must_wait G_Kicks_must_wait (hr.mono (by decide)) T.b_Kicks_must_wait .nil pass0 (pa_cons (pv 2) (pa_cons (pe_meth (pe_fld (pv 0) rfl) T.cl_Field T.m_Field_players_on G_Field_players_on (hr.mono (by decide)) T.b_Field_players_on .nil pass0 (pa_cons (pv 1) pa_nil)) pa_nil)))) (pss_one (ps_ret (pe_gc rfl T.g_HAS_KICKED))) pss_nil)
    (pss_cons (ps_if (pt_val (pe_meth0 (pe_fld (pv 0) rfl) T.cl_Kicks T.m_Kicks_all_taken G_Kicks_all_taken (hr.mono (by decide)) T.b_Kicks_all_taken .nil pass0)) (pss_one (ps_ret (pe_gc rfl T.g_USED_UP))) pss_nil)
    (pss_one (ps_ret pe_int))))))))
def t_Game_shoot (K : PySem.W.Frag) (a : Ad) : TS :=
  (tSeq (tAsg (tMeth a.c_Game "shoot_refusal" (sp_Game_shoot_refusal K a) [] E0 (tVar 0) (tCons (tVar 1) (tCons (tVar 2) (tCons (tVar 3) tNil)))) (gName 4))
    (tSeq (tIfS (tB (tLt (tVar 4) (tC (.int 0)))) (tRet (tVar 4)) tNext)
    (tSeq (sFld K (tVar 0) (tMeth a.c_Kicks "take" (sp_Kicks_take K a) [] E0 (tFld K (tVar 0) "kicks") (tCons (tVar 2) (tCons (tVar 3) (tCons (tMeth a.c_Field "players_on" (sp_Field_players_on K a) [] E0 (tFld K (tVar 0) "field") (tCons (tVar 1) tNil)) tNil)))) "winner")
    (tRet (tFld K (tVar 0) "winner")))))
theorem b_Game_shoot {cdv : Value} {A : Around} {outer : List Env} {s : Shared} {H : Hp} {E : XK} (T : Txt K mg a) (G_Game_shoot_refusal : FnOk P w K mg base CX0 3 a.f_Game_shoot_refusal a.d_Game_shoot_refusal ["self", "team", "player", "scored"] (sp_Game_shoot_refusal K a)) (G_Kicks_take : FnOk P w K mg base CX0 4 a.f_Kicks_take a.d_Kicks_take ["self", "player", "scored", "players_on"] (sp_Kicks_take K a)) (G_Field_players_on : FnOk P w K mg base CX0 2 a.f_Field_players_on a.d_Field_players_on ["self", "team"] (sp_Field_players_on K a)) (hr : Room 4 (A.deeper (envOfC "Game.shoot" (defScope st_Game_shoot) s.heap.objs.size a.f_Game_shoot cdv))) :
    PSs (cxOf CX0 P w K mg base ["self", "team", "player", "scored", "refusal"] "Game.shoot" (defScope st_Game_shoot) a.f_Game_shoot cdv A outer s H E).nox (defBody st_Game_shoot) (t_Game_shoot K a) :=
  (pss_cons (ps_set (i := 4) sc_Game_shoot.nd rfl (Or.inl rfl) (pe_meth (pv 0) T.cl_Game T.m_Game_shoot_refusal G_Game_shoot_refusal (hr.mono (by decide)) T.b_Game_shoot_refusal .nil pass0 (pa_cons (pv 1) (pa_cons (pv 2) (pa_cons (pv 3) pa_nil)))))
    (pss_cons (ps_if (pt_cmp (pc_lt (pv 4) pe_int)) (pss_one (ps_ret (pv 4))) pss_nil)
    (pss_cons (ps_fld (pv 0) (pe_meth (pe_fld (pv 0) rfl) T.cl_Kicks T.m_Kicks_take G_Kicks_take (hr.mono (by decide)) T.b_Kicks_take .nil pass0 (pa_cons (pv 2) (pa_cons (pv 3) (pa_cons (pe_meth (pe_fld (pv 0) rfl) T.cl_Field T.m_Field_players_on G_Field_players_on (hr.mono (by decide)) T.b_Field_players_on .nil pass0 (pa_cons (pv 1) pa_nil)) pa_nil)))) rfl)
    (pss_one (ps_ret (pe_fld (pv 0) rfl))))))
def t_Game_score (K : PySem.W.Frag) (a : Ad) : TS :=
  (tRet (tLst (tCons (tFld K (tFld K (tVar 0) "clock") "played") (tCons (tOp rIxP (tFld K (tFld K (tVar 0) "field") "scored") (tC (.int 0))) (tCons (tOp rIxP (tFld K (tFld K (tVar 0) "field") "scored") (tC (.int 1))) tNil)))))
theorem b_Game_score {cdv : Value} {A : Around} {outer : List Env} {s : Shared} {H : Hp} {E : XK} (T : Txt K mg a) (hr : Room 0 (A.deeper (envOfC "Game.score" (defScope st_Game_score) s.heap.objs.size a.f_Game_score cdv))) :
    PSs (cxOf CX0 P w K mg base ["self"] "Game.score" (defScope st_Game_score) a.f_Game_score cdv A outer s H E).nox (defBody st_Game_score) (t_Game_score K a) :=
  (pss_one (ps_ret (pe_lst (pa_cons (pe_fld (pe_fld (pv 0) rfl) rfl) (pa_cons (pe_ix ix_listP (pe_fld (pe_fld (pv 0) rfl) rfl) pe_int (fun _ _ => rfl)) (pa_cons (pe_ix ix_listP (pe_fld (pe_fld (pv 0) rfl) rfl) pe_int (fun _ _ => rfl)) pa_nil))))))
def t_Game_on (K : PySem.W.Frag) (a : Ad) : TS :=
  (tRet (tMeth a.c_Field "on" (sp_Field_on K a) [] E0 (tFld K (tVar 0) "field") (tCons (tVar 1) tNil)))
theorem b_Game_on {cdv : Value} {A : Around} {outer : List Env} {s : Shared} {H : Hp} {E : XK} (T : Txt K mg a) (G_Field_on : FnOk P w K mg base CX0 3 a.f_Field_on a.d_Field_on ["self", "team"] (sp_Field_on K a)) (hr : Room 3 (A.deeper (envOfC "Game.on" (defScope st_Game_on) s.heap.objs.size a.f_Game_on cdv))) :
    PSs (cxOf CX0 P w K mg base ["self", "team"] "Game.on" (defScope st_Game_on) a.f_Game_on cdv A outer s H E).nox (defBody st_Game_on) (t_Game_on K a) :=
  (pss_one (ps_ret (pe_meth (pe_fld (pv 0) rfl) T.cl_Field T.m_Field_on G_Field_on (hr.mono (by decide)) T.b_Field_on .nil pass0 (pa_cons (pv 1) pa_nil))))
def t_Game_minute (K : PySem.W.Frag) (a : Ad) : TS :=
  (tRet (tMeth a.c_Clock "minute" (sp_Clock_minute K a) [] E0 (tFld K (tVar 0) "clock") tNil))
theorem b_Game_minute {cdv : Value} {A : Around} {outer : List Env} {s : Shared} {H : Hp} {E : XK} (T : Txt K mg a) (G_Clock_minute : FnOk P w K mg base CX0 2 a.f_Clock_minute a.d_Clock_minute ["self"] (sp_Clock_minute K a)) (hr : Room 2 (A.deeper (envOfC "Game.minute" (defScope st_Game_minute) s.heap.objs.size a.f_Game_minute cdv))) :
    PSs (cxOf CX0 P w K mg base ["self"] "Game.minute" (defScope st_Game_minute) a.f_Game_minute cdv A outer s H E).nox (defBody st_Game_minute) (t_Game_minute K a) :=
  (pss_one (ps_ret (pe_meth0 (pe_fld (pv 0) rfl) T.cl_Clock T.m_Clock_minute G_Clock_minute (hr.mono (by decide)) T.b_Clock_minute .nil pass0)))
def t_answer_of (K : PySem.W.Frag) (a : Ad) : TS :=
  (tSeq (tIfS (tTest (tOp rEq (tVar 1) (tC (.int 1)))) (tRet (tMeth a.c_Game "kick" (sp_Game_kick K a) [] E0 (tVar 0) tNil)) tNext)
    (tSeq (tIfS (tTest (tOp rEq (tVar 1) (tC (.int 2)))) (tRet (tMeth a.c_Game "tick" (sp_Game_tick K a) [] E0 (tVar 0) (tCons (tOp rIxP (tVar 2) (tC (.int 0))) tNil))) tNext)
    (tSeq (tIfS (tTest (tOp rEq (tVar 1) (tC (.int 3)))) (tRet (tMeth a.c_Game "stop" (sp_Game_stop K a) [] E0 (tVar 0) (tCons (tOp rIxP (tVar 2) (tC (.int 0))) tNil))) tNext)
    (tSeq (tIfS (tTest (tOp rEq (tVar 1) (tC (.int 4)))) (tRet (tMeth a.c_Game "whistle" (sp_Game_whistle K a) [] E0 (tVar 0) tNil)) tNext)
    (tSeq (tIfS (tTest (tOp rEq (tVar 1) (tC (.int 5)))) (tRet (tMeth a.c_Game "card" (sp_Game_card K a) [] E0 (tVar 0) (tCons (tOp rIxP (tVar 2) (tC (.int 0))) (tCons (tOp rIxP (tVar 2) (tC (.int 1))) (tCons (tOp rIxP (tVar 2) (tC (.int 2))) tNil))))) tNext)
    (tSeq (tIfS (tTest (tOp rEq (tVar 1) (tC (.int 6)))) (tRet (tMeth a.c_Game "change" (sp_Game_change K a) [] E0 (tVar 0) (tCons (tOp rIxP (tVar 2) (tC (.int 0))) (tCons (tOp rIxP (tVar 2) (tC (.int 1))) (tCons (tOp rIxP (tVar 2) (tC (.int 2))) tNil))))) tNext)
    (tSeq (tIfS (tTest (tOp rEq (tVar 1) (tC (.int 7)))) (tRet (tMeth a.c_Game "goal" (sp_Game_goal K a) [] E0 (tVar 0) (tCons (tOp rIxP (tVar 2) (tC (.int 0))) (tCons (tOp rIxP (tVar 2) (tC (.int 1))) (tCons (tOp rIxP (tVar 2) (tC (.int 2))) tNil))))) tNext)
    (tSeq (tIfS (tTest (tOp rEq (tVar 1) (tC (.int 8)))) (tRet (tMeth a.c_Game "first" (sp_Game_first K a) [] E0 (tVar 0) (tCons (tOp rIxP (tVar 2) (tC (.int 0))) tNil))) tNext)
    (tRet (tMeth a.c_Game "shoot" (sp_Game_shoot K a) [] E0 (tVar 0) (tCons (tOp rIxP (tVar 2) (tC (.int 0))) (tCons (tOp rIxP (tVar 2) (tC (.int 1))) (tCons (tOp rIxP (tVar 2) (tC (.int 2))) tNil)))))))))))))
theorem b_answer_of {cdv : Value} {A : Around} {outer : List Env} {s : Shared} {H : Hp} {E : XK} (T : Txt K mg a) (G_Game_kick : FnOk P w K mg base CX0 3 a.f_Game_kick a.d_Game_kick ["self"] (sp_Game_kick K a)) (G_Game_tick : FnOk P w K mg base CX0 2 a.f_Game_tick a.d_Game_tick ["self", "seconds"] (sp_Game_tick K a)) (G_Game_stop : FnOk P w K mg base CX0 2 a.f_Game_stop a.d_Game_stop ["self", "stop"] (sp_Game_stop K a)) (G_Game_whistle : FnOk P w K mg base CX0 3 a.f_Game_whistle a.d_Game_whistle ["self"] (sp_Game_whistle K a)) (G_Game_card : FnOk P w K mg base CX0 4 a.f_Game_card a.d_Game_card ["self", "team", "player", "colour"] (sp_Game_card K a)) (G_Game_change : FnOk P w K mg base CX0 4 a.f_Game_change a.d_Game_change ["self", "team", "leaving", "coming"] (sp_Game_change K a)) (G_Game_goal : FnOk P w K mg base CX0 3 a.f_Game_goal a.d_Game_goal ["self", "team", "player", "own"] (sp_Game_goal K a)) (G_Game_first : FnOk P w K mg base CX0 3 a.f_Game_first a.d_Game_first ["self", "team"] (sp_Game_first K a)) (G_Game_shoot : FnOk P w K mg base CX0 5 a.f_Game_shoot a.d_Game_shoot ["self", "team", "player", "scored"] (sp_Game_shoot K a)) (hr : Room 5 (A.deeper (envOfC "answer_of" (defScope st_answer_of) s.heap.objs.size a.f_answer_of cdv))) :
    PSs (cxOf CX0 P w K mg base ["game", "call", "handed"] "answer_of" (defScope st_answer_of) a.f_answer_of cdv A outer s H E).nox (defBody st_answer_of) (t_answer_of K a) :=
  (pss_cons (ps_if (pt_cmpR op_eq (pv 1) (pe_gc rfl T.g_KICK) (nomark _)) (pss_one (ps_ret (pe_meth0 (pv 0) T.cl_Game T.m_Game_kick G_Game_kick (hr.mono (by decide)) T.b_Game_kick .nil pass0))) pss_nil)
    (pss_cons (ps_if (pt_cmpR op_eq (pv 1) (pe_gc rfl T.g_TICK) (nomark _)) (pss_one (ps_ret (pe_meth (pv 0) T.cl_Game T.m_Game_tick G_Game_tick (hr.mono (by decide)) T.b_Game_tick .nil pass0 (pa_cons (pe_ix ix_listP (pv 2) pe_int (fun _ _ => rfl)) pa_nil)))) pss_nil)
    (pss_cons (ps_if (pt_cmpR op_eq (pv 1) (pe_gc rfl T.g_STOP) (nomark _)) (pss_one (ps_ret (pe_meth (pv 0) T.cl_Game T.m_Game_stop G_Game_stop (hr.mono (by decide)) T.b_Game_stop .nil pass0 (pa_cons (pe_ix ix_listP (pv 2) pe_int (fun _ _ => rfl)) pa_nil)))) pss_nil)
    (pss_cons (ps_if (pt_cmpR op_eq (pv 1) (pe_gc rfl T.g_WHISTLE) (nomark _)) (pss_one (ps_ret (pe_meth0 (pv 0) T.cl_Game T.m_Game_whistle G_Game_whistle (hr.mono (by decide)) T.b_Game_whistle .nil pass0))) pss_nil)
    (pss_cons (ps_if (pt_cmpR op_eq (pv 1) (pe_gc rfl T.g_CARD) (nomark _)) (pss_one (ps_ret (pe_meth (pv 0) T.cl_Game T.m_Game_card G_Game_card (hr.mono (by decide)) T.b_Game_card .nil pass0 (pa_cons (pe_ix ix_listP (pv 2) pe_int (fun _ _ => rfl)) (pa_cons (pe_ix ix_listP (pv 2) pe_int (fun _ _ => rfl)) (pa_cons (pe_ix ix_listP (pv 2) pe_int (fun _ _ => rfl)) pa_nil)))))) pss_nil)
    (pss_cons (ps_if (pt_cmpR op_eq (pv 1) (pe_gc rfl T.g_CHANGE) (nomark _)) (pss_one (ps_ret (pe_meth (pv 0) T.cl_Game T.m_Game_change G_Game_change (hr.mono (by decide)) T.b_Game_change .nil pass0 (pa_cons (pe_ix ix_listP (pv 2) pe_int (fun _ _ => rfl)) (pa_cons (pe_ix ix_listP (pv 2) pe_int (fun _ _ => rfl)) (pa_cons (pe_ix ix_listP (pv 2) pe_int (fun _ _ => rfl)) pa_nil)))))) pss_nil)
    (pss_cons (ps_if (pt_cmpR op_eq (pv 1) (pe_gc rfl T.g_GOAL) (nomark _)) (pss_one (ps_ret (pe_meth (pv 0) T.cl_Game T.m_Game_goal G_Game_goal (hr.mono (by decide)) T.b_Game_goal .nil pass0 (pa_cons (pe_ix ix_listP (pv 2) pe_int (fun _ _ => rfl)) (pa_cons (pe_ix ix_listP (pv 2) pe_int (fun _ _ => rfl)) (pa_cons (pe_ix ix_listP (pv 2) pe_int (fun _ _ => rfl)) pa_nil)))))) pss_nil)
    (pss_cons (ps_if (pt_cmpR op_eq (pv 1) (pe_gc rfl T.g_FIRST) (nomark _)) (pss_one (ps_ret (pe_meth (pv 0) T.cl_Game T.m_Game_first G_Game_first (hr.mono (by decide)) T.b_Game_first .nil pass0 (pa_cons (pe_ix ix_listP (pv 2) pe_int (fun _ _ => rfl)) pa_nil)))) pss_nil)
    (pss_one (ps_ret (pe_meth (pv 0) T.cl_Game T.m_Game_shoot G_Game_shoot (hr.mono (by decide)) T.b_Game_shoot .nil pass0 (pa_cons (pe_ix ix_listP (pv 2) pe_int (fun _ _ => rfl)) (pa_cons (pe_ix ix_listP (pv 2) pe_int (fun _ _ => rfl)) (pa_cons (pe_ix ix_listP (pv 2) pe_int (fun _ _ => rfl)) pa_nil))))))))))))))
def t_numbers_of (K : PySem.W.Frag) (a : Ad) : TS :=
  (tSeq (tIfS (tTest (tOp rEq (tVar 1) (tC (.int 10)))) (tRet (tMeth a.c_Game "score" (sp_Game_score K a) [] E0 (tVar 0) tNil)) tNext)
    (tSeq (tIfS (tTest (tOp rEq (tVar 1) (tC (.int 11)))) (tRet (tMeth a.c_Game "on" (sp_Game_on K a) [] E0 (tVar 0) (tCons (tOp rIxP (tVar 2) (tC (.int 0))) tNil))) tNext)
    (tSeq (tIfS (tTest (tOp rEq (tVar 1) (tC (.int 12)))) (tRet (tMeth a.c_Game "minute" (sp_Game_minute K a) [] E0 (tVar 0) tNil)) tNext)
    (tSeq (tIfS (tTest (tOp rEq (tVar 1) (tC (.int 13)))) (tRet (tLst (tCons (tFld K (tVar 0) "winner") tNil))) tNext)
    (tSeq (tIfS (tTest (tOp rNe (tFld K (tVar 0) "winner") (tC (.int 0)))) (tRet (tLst (tCons (tC (.int (-41))) tNil))) tNext)
    (tRet (tLst (tCons (tCall (sp_answer_of K a) [] E0 (tCons (tVar 0) (tCons (tVar 1) (tCons (tVar 2) tNil)))) tNil))))))))
theorem b_numbers_of {cdv : Value} {A : Around} {outer : List Env} {s : Shared} {H : Hp} {E : XK} (T : Txt K mg a) (G_Game_score : FnOk P w K mg base CX0 1 a.f_Game_score a.d_Game_score ["self"] (sp_Game_score K a)) (G_Game_on : FnOk P w K mg base CX0 4 a.f_Game_on a.d_Game_on ["self", "team"] (sp_Game_on K a)) (G_Game_minute : FnOk P w K mg base CX0 3 a.f_Game_minute a.d_Game_minute ["self"] (sp_Game_minute K a)) (G_answer_of : FnOk P w K mg base CX0 6 a.f_answer_of a.d_answer_of ["game", "call", "handed"] (sp_answer_of K a)) (hr : Room 6 (A.deeper (envOfC "numbers_of" (defScope st_numbers_of) s.heap.objs.size a.f_numbers_of cdv))) :
    PSs (cxOf CX0 P w K mg base ["game", "call", "handed"] "numbers_of" (defScope st_numbers_of) a.f_numbers_of cdv A outer s H E).nox (defBody st_numbers_of) (t_numbers_of K a) :=
  (pss_cons (ps_if (pt_cmpR op_eq (pv 1) (pe_gc rfl T.g_SCORE) (nomark _)) (pss_one (ps_ret (pe_meth0 (pv 0) T.cl_Game T.m_Game_score G_Game_score (hr.mono (by decide)) T.b_Game_score .nil pass0))) pss_nil)
    (pss_cons (ps_if (pt_cmpR op_eq (pv 1) (pe_gc rfl T.g_ON_referee) (nomark _)) (pss_one (ps_ret (pe_meth (pv 0) T.cl_Game T.m_Game_on G_Game_on (hr.mono (by decide)) T.b_Game_on .nil pass0 (pa_cons (pe_ix ix_listP (pv 2) pe_int (fun _ _ => rfl)) pa_nil)))) pss_nil)
    (pss_cons (ps_if (pt_cmpR op_eq (pv 1) (pe_gc rfl T.g_MINUTE_referee) (nomark _)) (pss_one (ps_ret (pe_meth0 (pv 0) T.cl_Game T.m_Game_minute G_Game_minute (hr.mono (by decide)) T.b_Game_minute .nil pass0))) pss_nil)
    (pss_cons (ps_if (pt_cmpR op_eq (pv 1) (pe_gc rfl T.g_WON) (nomark _)) (pss_one (ps_ret (pe_lst (pa_cons (pe_fld (pv 0) rfl) pa_nil)))) pss_nil)
    (pss_cons (ps_if (pt_cmpR op_ne (pe_fld (pv 0) rfl) (pe_gc rfl T.g_NOBODY) (nomark _)) (pss_one (ps_ret (pe_lst (pa_cons (pe_gc rfl T.g_MATCH_OVER) pa_nil)))) pss_nil)
    (pss_one (ps_ret (pe_lst (pa_cons (pe_call G_answer_of (hr.mono (by decide)) rfl T.m_answer_of T.F_answer_of.kp T.b_answer_of .nil pass0 (pa_cons (pv 0) (pa_cons (pv 1) (pa_cons (pv 2) pa_nil)))) pa_nil)))))))))
def t_answers (K : PySem.W.Frag) (a : Ad) : TS :=
  (tSeq (tAsg (tLst tNil) (gName 1))
    (tSeq (tAsg (tC .non) (gName 2))
    (tSeq (tAsg (tC (.int 0)) (gName 3))
    (tSeq (tWhile (tB (tLt (tVar 3) (tCB (rLen K) (tCons (tVar 0) tNil))))
    (tSeq (tAsg (tOp (rIxL K) (tVar 0) (tVar 3)) (gName 4))
    (tSeq (tAsg (tAdd (tAdd (tVar 3) (tC (.int 1))) (tOp (rIxT K) (tC (.ref a.g_HANDED)) (tVar 4))) (gName 5))
    (tSeq (tAsg (tSl (rSlL K) (tVar 0) (tPart (tAdd (tVar 3) (tC (.int 1)))) (tPart (tVar 5))) (gName 6))
    (tSeq (tAsg (tVar 5) (gName 3))
    (tSeq (tIfS (tTest (tOp rNe (tVar 4) (tC (.int 0)))) (tAsg (tCall (sp_numbers_of K a) [] E0 (tCons (tVar 2) (tCons (tVar 4) (tCons (tVar 6) tNil)))) (gName 7)) (tIfS (tB (tCall (sp_lengths_allowed K a) [] E0 (tCons (tOp rIxP (tVar 6) (tC (.int 0))) (tCons (tOp rIxP (tVar 6) (tC (.int 1))) tNil)))) (tSeq (tAsg (tMake a.c_Game (sp_Game_init K a) [] E0 (tCons (tOp rIxP (tVar 6) (tC (.int 0))) (tCons (tOp rIxP (tVar 6) (tC (.int 1))) tNil))) (gName 2))
    (tAsg (tLst (tCons (tC (.int 0)) tNil)) (gName 7))) (tAsg (tLst (tCons (tC (.int (-22))) tNil)) (gName 7))))
    (tSeq (tDrop (tBM K "list" rAppend (tVar 1) (tCons (tCB rLenP (tCons (tVar 7) tNil)) tNil)))
    (tDrop (tBM K "list" rExtend (tVar 1) (tCons (tVar 7) tNil))))))))))
    (tRet (tVar 1))))))
theorem b_answers {cdv : Value} {A : Around} {outer : List Env} {s : Shared} {H : Hp} {E : XK} (T : Txt K mg a) (G_numbers_of : FnOk P w K mg base CX0 7 a.f_numbers_of a.d_numbers_of ["game", "call", "handed"] (sp_numbers_of K a)) (G_lengths_allowed : FnOk P w K mg base CX0 1 a.f_lengths_allowed a.d_lengths_allowed ["half", "extra"] (sp_lengths_allowed K a)) (G_Game_init : FnOk P w K mg base CX0 4 a.f_Game_init a.d_Game_init ["self", "half", "extra"] (sp_Game_init K a)) (hr : Room 7 (A.deeper (envOfC "answers" (defScope st_answers) s.heap.objs.size a.f_answers cdv))) :
    PSs (cxOf CX0 P w K mg base ["calls", "answered", "game", "place", "call", "after", "handed", "numbers"] "answers" (defScope st_answers) a.f_answers cdv A outer s H E).nox (defBody st_answers) (t_answers K a) :=
  (pss_cons (ps_set (i := 1) sc_answers.nd rfl (Or.inl rfl) (pe_lst pa_nil))
    (pss_cons (ps_set (i := 2) sc_answers.nd rfl (Or.inl rfl) pe_non)
    (pss_cons (ps_set (i := 3) sc_answers.nd rfl (Or.inl rfl) pe_int)
    (pss_cons (ps_while PassesOwn.never (pt_cmp (pc_lt (pv 3) (pe_callB call_lenK (by rfl) T.no_len PySem.boot_len (pa_cons (pv 0) pa_nil))))
    (pss_cons (ps_set (i := 4) sc_answers.nd rfl (Or.inl rfl) (pe_ix ix_list (pv 0) (pv 3) (fun _ _ => rfl)))
    (pss_cons (ps_set (i := 5) sc_answers.nd rfl (Or.inl rfl) (pe_add (pe_add (pv 3) pe_int) (pe_ix ix_tup (pe_gc rfl T.g_HANDED) (pv 4) (fun _ _ => rfl))))
    (pss_cons (ps_set (i := 6) sc_answers.nd rfl (Or.inl rfl) (pe_slice sl_list (pv 0) (po_some (pe_add (pv 3) pe_int)) (po_some (pv 5))))
    (pss_cons (ps_set (i := 3) sc_answers.nd rfl (Or.inl rfl) (pv 5))
    (pss_cons (ps_if (pt_cmpR op_ne (pv 4) (pe_gc rfl T.g_START) (nomark _)) (pss_one (ps_set (i := 7) sc_answers.nd rfl (Or.inl rfl) (pe_call G_numbers_of (hr.mono (by decide)) rfl T.m_numbers_of T.F_numbers_of.kp T.b_numbers_of .nil pass0 (pa_cons (pv 2) (pa_cons (pv 4) (pa_cons (pv 6) pa_nil)))))) (pss_one (ps_if (pt_val (pe_call G_lengths_allowed (hr.mono (by decide)) rfl T.m_lengths_allowed T.F_lengths_allowed.kp T.b_lengths_allowed .nil pass0 (pa_cons (pe_ix ix_listP (pv 6) pe_int (fun _ _ => rfl)) (pa_cons (pe_ix ix_listP (pv 6) pe_int (fun _ _ => rfl)) pa_nil)))) (pss_cons (ps_set (i := 2) sc_answers.nd rfl (Or.inl rfl) (pe_make T.mk_Game G_Game_init (hr.mono (by decide)) rfl T.c_Game T.b_Game_init .nil pass0 (pa_cons (pe_ix ix_listP (pv 6) pe_int (fun _ _ => rfl)) (pa_cons (pe_ix ix_listP (pv 6) pe_int (fun _ _ => rfl)) pa_nil))))
    (pss_one (ps_set (i := 7) sc_answers.nd rfl (Or.inl rfl) (pe_lst (pa_cons pe_int pa_nil))))) (pss_one (ps_set (i := 7) sc_answers.nd rfl (Or.inl rfl) (pe_lst (pa_cons (pe_gc rfl T.g_OUT_OF_RANGE) pa_nil)))))))
    (pss_cons (ps_expr (pe_bm PySem.F.plainAttrs_list PySem.F.slot_list_append PySem.F.type_list_append mt_append (pv 1) (pa_cons (pe_callB call_lenP (by rfl) T.no_len PySem.boot_len (pa_cons (pv 7) pa_nil)) pa_nil)))
    (pss_one (ps_expr (pe_bm PySem.F.plainAttrs_list PySem.F.slot_list_extend PySem.F.type_list_extend mt_extend (pv 1) (pa_cons (pv 7) pa_nil)))))))))))
    (pss_one (ps_ret (pv 1)))))))
end
end MK

namespace MK
open PySem PySem.Spec PyProof.Rows L2
set_option hygiene false
local macro_rules | `(tactic| walk_at "rd") => `(tactic| simp only [↓q_seq, ↓q_next, ↓q_drop, ↓q_ret, ↓q_retN, ↓q_ifS, ↓q_asgN, ↓q_asgS, ↓q_fld, ↓q_put, ↓q_aug, ↓q_augN, ↓q_augS, ↓q_C, ↓q_add, ↓q_sub, ↓q_cmp, ↓q_isN, ↓q_notN, ↓q_B, ↓q_test, ↓q_and, ↓q_or, ↓q_not, ↓q_andV, ↓q_orV, ↓q_notV, ↓q_if, ↓q_op, ↓q_un, ↓q_nil, ↓q_cons, ↓q_call, ↓q_meth, ↓q_make, ↓q_yes, ↓q_sl, ↓q_part, ↓q_cb, ↓q_bm, ↓q_bm0, ↓q_lst, ↓q_var0, ↓q_varS, ↓x_int, ↓x_int2, ↓x_bl, ↓x_rI0, ↓x_rI, ↓x_rU, ↓x_eqI, ↓x_neI, ↓x_eqB, ↓x_neB, ↓x_rAdd, ↓x_rSub, ↓x_ipI, ↓i_dec, ↓i_ndec, ↓i_t, ↓i_f, ↓i_nb, ↓x_some, ↓x_someN, ↓at2_0, ↓at2_1, ↓q_noPart, ↓x_max, List.set_cons_zero, List.set_cons_succ, List.nil_append, List.cons_append, List.append_nil, true_and, Bool.not_true, Bool.not_false, if_true, if_false, ↓reduceIte, ↓rd_Game_clock T g, ↓rd_Game_field T g, ↓rd_Game_at_kicks T g, ↓wr_Game_at_kicks T g, ↓au_Game_at_kicks T g, ↓wa_Game_at_kicks g, ↓rd_Game_kicks T g, ↓rd_Game_winner T g, ↓wr_Game_winner T g, ↓au_Game_winner T g, ↓wa_Game_winner g, ↓me_Game_kick g, ↓me_Game_tick g, ↓me_Game_stop g, ↓me_Game_whistle g, ↓me_Game_settle g, ↓me_Game_card g, ↓me_Game_change g, ↓me_Game_goal g, ↓me_Game_first g, ↓me_Game_shoot g, ↓me_Game_shoot_refusal g, ↓me_Game_score g, ↓me_Game_on g, ↓me_Game_minute g, ↓rd_Clock_lengths T g, ↓rd_Clock_played T g, ↓wr_Clock_played T g, ↓au_Clock_played T g, ↓wa_Clock_played g, ↓rd_Clock_running T g, ↓wr_Clock_running T g, ↓au_Clock_running T g, ↓wa_Clock_running g, ↓rd_Clock_gone T g, ↓wr_Clock_gone T g, ↓au_Clock_gone T g, ↓wa_Clock_gone g, ↓rd_Clock_stood T g, ↓wr_Clock_stood T g, ↓au_Clock_stood T g, ↓wa_Clock_stood g, ↓me_Clock_all_played g, ↓me_Clock_length g, ↓me_Clock_kick g, ↓me_Clock_tick g, ↓me_Clock_whistle g, ↓me_Clock_minute g, ↓rd_Field_places T g, ↓rd_Field_booked T g, ↓rd_Field_play T g, ↓wr_Field_play T g, ↓au_Field_play T g, ↓wa_Field_play g, ↓rd_Field_changes T g, ↓rd_Field_windows T g, ↓rd_Field_in_window T g, ↓rd_Field_scored T g, ↓me_Field_set_play g, ↓me_Field_is_standing g, ↓me_Field_is_on g, ↓me_Field_players_on g, ↓me_Field_too_few g, ↓me_Field_on g, ↓me_Field_card g, ↓me_Field_change g, ↓me_Field_change_refusal g, ↓me_Field_needs_window g, ↓me_Field_take_window g, ↓me_Field_goal g, ↓ix_3 g, ↓ty_3 (K := K) g, ↓ix_4 g, ↓ty_4 (K := K) g, ↓in_4 g, ↓le_4 g, ↓sl_4 g, ↓co_4 g, ↓ix_5 g, ↓ty_5 (K := K) g, ↓in_5 g, ↓le_5 g, ↓sl_5 g, ↓co_5 g, ↓ix_6 g, ↓ty_6 (K := K) g, ↓ix_7 g, ↓ty_7 (K := K) g, ↓ix_8 g, ↓ty_8 (K := K) g, ↓ix_9 g, ↓ty_9 (K := K) g, ↓mi_9 g, ↓se_9_0 g, ↓se_9_1 g, ↓ix_10 g, ↓ty_10 (K := K) g, ↓mi_10 g, ↓se_10_0 g, ↓se_10_1 g, ↓ix_11 g, ↓ty_11 (K := K) g, ↓se_11_0 g, ↓se_11_1 g, ↓ix_12 g, ↓ty_12 (K := K) g, ↓mi_12 g, ↓se_12_0 g, ↓se_12_1 g, ↓ix_13 g, ↓ty_13 (K := K) g, ↓in_13 g, ↓le_13 g, ↓sl_13 g, ↓co_13 g])
local macro_rules | `(tactic| walk_at "rk") => `(tactic| simp only [↓q_seq, ↓q_next, ↓q_drop, ↓q_ret, ↓q_retN, ↓q_ifS, ↓q_asgN, ↓q_asgS, ↓q_fld, ↓q_put, ↓q_aug, ↓q_augN, ↓q_augS, ↓q_C, ↓q_add, ↓q_sub, ↓q_cmp, ↓q_isN, ↓q_notN, ↓q_B, ↓q_test, ↓q_and, ↓q_or, ↓q_not, ↓q_andV, ↓q_orV, ↓q_notV, ↓q_if, ↓q_op, ↓q_un, ↓q_nil, ↓q_cons, ↓q_call, ↓q_meth, ↓q_make, ↓q_yes, ↓q_sl, ↓q_part, ↓q_cb, ↓q_bm, ↓q_bm0, ↓q_lst, ↓q_var0, ↓q_varS, ↓x_int, ↓x_int2, ↓x_bl, ↓x_rI0, ↓x_rI, ↓x_rU, ↓x_eqI, ↓x_neI, ↓x_eqB, ↓x_neB, ↓x_rAdd, ↓x_rSub, ↓x_ipI, ↓i_dec, ↓i_ndec, ↓i_t, ↓i_f, ↓i_nb, ↓x_some, ↓x_someN, ↓at2_0, ↓at2_1, ↓q_noPart, ↓x_max, List.set_cons_zero, List.set_cons_succ, List.nil_append, List.cons_append, List.append_nil, true_and, Bool.not_true, Bool.not_false, if_true, if_false, ↓reduceIte, ↓rd_Kicks_turn T g, ↓wr_Kicks_turn T g, ↓au_Kicks_turn T g, ↓wa_Kicks_turn g, ↓rd_Kicks_taken T g, ↓rd_Kicks_hits T g, ↓rd_Kicks_in_round T g, ↓me_Kicks_all_taken g, ↓me_Kicks_round_is_done g, ↓me_Kicks_must_wait g, ↓me_Kicks_take g, ↓me_Kicks_decided_for g, ↓me_Kicks_left g, ↓kix_1 g, ↓kty_1 (K := K) g, ↓kmi_1 g, ↓kse_1_0 g, ↓kse_1_1 g, ↓kix_2 g, ↓kty_2 (K := K) g, ↓kmi_2 g, ↓kse_2_0 g, ↓kse_2_1 g, ↓kix_3 g, ↓kty_3 (K := K) g, ↓kin_3 g, ↓kle_3 g, ↓ksl_3 g, ↓kco_3 g, ↓kix_4 g, ↓kty_4 (K := K) g, ↓kin_4 g, ↓kle_4 g, ↓ksl_4 g, ↓kco_4 g, ↓kix_5 g, ↓kty_5 (K := K) g])
local macro_rules | `(tactic| walk_at "r0") => `(tactic| simp only [↓q_seq, ↓q_next, ↓q_drop, ↓q_ret, ↓q_retN, ↓q_ifS, ↓q_asgN, ↓q_asgS, ↓q_fld, ↓q_put, ↓q_aug, ↓q_augN, ↓q_augS, ↓q_C, ↓q_add, ↓q_sub, ↓q_cmp, ↓q_isN, ↓q_notN, ↓q_B, ↓q_test, ↓q_and, ↓q_or, ↓q_not, ↓q_andV, ↓q_orV, ↓q_notV, ↓q_if, ↓q_op, ↓q_un, ↓q_nil, ↓q_cons, ↓q_call, ↓q_meth, ↓q_make, ↓q_yes, ↓q_sl, ↓q_part, ↓q_cb, ↓q_bm, ↓q_bm0, ↓q_lst, ↓q_var0, ↓q_varS, ↓x_int, ↓x_int2, ↓x_bl, ↓x_rI0, ↓x_rI, ↓x_rU, ↓x_eqI, ↓x_neI, ↓x_eqB, ↓x_neB, ↓x_rAdd, ↓x_rSub, ↓x_ipI, ↓i_dec, ↓i_ndec, ↓i_t, ↓i_f, ↓i_nb, ↓x_some, ↓x_someN, ↓at2_0, ↓at2_1, ↓q_noPart, ↓x_max, List.set_cons_zero, List.set_cons_succ, List.nil_append, List.cons_append, List.append_nil, true_and, Bool.not_true, Bool.not_false, if_true, if_false, ↓reduceIte])
set_option hygiene true
section
variable {P : Program} {w : World} {K : PySem.W.Frag} {mg : Str → Option Value} {base : Heap} {a : Ad}
theorem ok_lengths_allowed (T : Txt K mg a) : FnOk P w K mg base CX0 1 a.f_lengths_allowed a.d_lengths_allowed ["half", "extra"] (sp_lengths_allowed K a) := by
  refine T.F_lengths_allowed.ok sc_lengths_allowed (fun vs H Q E h => ?_) (fun cdv A outer s H vs Q E hr h => ?_)
  · obtain ⟨h, e, rfl, k⟩ := h
    rfl
  · obtain ⟨h, e, rfl, k⟩ := h
    refine ⟨_, b_lengths_allowed T hr, ?_⟩
    show t_lengths_allowed K a _ [some (.int h), some (.int e)] H
    unfold t_lengths_allowed
    unfold lenOk at k
    simp only [↓q_seq, ↓q_next, ↓q_ifS, ↓q_or, ↓q_B, ↓q_cmp, ↓q_var0, ↓q_varS, ↓q_C, ↓x_int2, ↓x_bl, ↓i_dec, ↓q_ret, ↓q_orV, ↓q_andV, ↓q_test, ↓q_op, ↓x_eqI]
    repeat' split
    all_goals simp_all
theorem ok_minutes_rounded_up (T : Txt K mg a) : FnOk P w K mg base CX0 1 a.f_minutes_rounded_up a.d_minutes_rounded_up ["seconds"] (sp_minutes_rounded_up K a) := by
  refine T.F_minutes_rounded_up.ok sc_minutes_rounded_up (fun vs H Q E h => ?_) (fun cdv A outer s H vs Q E hr h => ?_)
  · obtain ⟨h, rfl, k⟩ := h
    rfl
  · obtain ⟨h, rfl, k⟩ := h
    refine ⟨_, b_minutes_rounded_up T hr, ?_⟩
    show t_minutes_rounded_up K a _ [some (.int h)] H
    unfold t_minutes_rounded_up
    walk_at "r0"
    exact ⟨⟨by decide, by decide⟩, k⟩
theorem ok_other (T : Txt K mg a) : FnOk P w K mg base CX0 1 a.f_other a.d_other ["team"] (sp_other K a) := by
  refine T.F_other.ok sc_other (fun vs H Q E h => ?_) (fun cdv A outer s H vs Q E hr h => ?_)
  · obtain ⟨h, rfl, k⟩ := h
    rfl
  · obtain ⟨h, rfl, k⟩ := h
    refine ⟨_, b_other T hr, ?_⟩
    show t_other K a _ [some (.int h)] H
    unfold t_other
    walk_at "r0"
    exact k
theorem ok_won_by (T : Txt K mg a) : FnOk P w K mg base CX0 1 a.f_won_by a.d_won_by ["team"] (sp_won_by K a) := by
  refine T.F_won_by.ok sc_won_by (fun vs H Q E h => ?_) (fun cdv A outer s H vs Q E hr h => ?_)
  · obtain ⟨h, rfl, k⟩ := h
    rfl
  · obtain ⟨h, rfl, k⟩ := h
    refine ⟨_, b_won_by T hr, ?_⟩
    show t_won_by K a _ [some (.int h)] H
    unfold t_won_by
    walk_at "r0"
    exact k
theorem ok_Clock_all_played (T : Txt K mg a) : FnOk P w K mg base CX0 1 a.f_Clock_all_played a.d_Clock_all_played ["self"] (sp_Clock_all_played K a) := by
  refine T.F_Clock_all_played.ok sc_Clock_all_played (fun vs H Q E h => ?_) (fun cdv A outer s H vs Q E hr h => ?_)
  · obtain ⟨wd, m, H0, g, rfl, rfl, k⟩ := h
    rfl
  · obtain ⟨wd, m, H0, g, rfl, rfl, k⟩ := h
    refine ⟨_, b_Clock_all_played T hr, ?_⟩
    show t_Clock_all_played K a _ [some (.ref (wd.A 1))] _
    unfold t_Clock_all_played
    unfold allPlayed at k
    walk_at "rd"
    exact k
theorem ok_Clock_length (T : Txt K mg a) : FnOk P w K mg base CX0 1 a.f_Clock_length a.d_Clock_length ["self"] (sp_Clock_length K a) := by
  refine T.F_Clock_length.ok sc_Clock_length (fun vs H Q E h => ?_) (fun cdv A outer s H vs Q E hr h => ?_)
  · obtain ⟨wd, m, H0, g, h0, h1, rfl, rfl, k⟩ := h
    rfl
  · obtain ⟨wd, m, H0, g, h0, h1, rfl, rfl, k⟩ := h
    refine ⟨_, b_Clock_length T hr, ?_⟩
    show t_Clock_length K a _ [some (.ref (wd.A 1))] _
    unfold t_Clock_length
    unfold clen at k
    walk_at "rd"
    exact ⟨_, at_ints h0 h1, k⟩
theorem ok_Clock_kick (T : Txt K mg a) : FnOk P w K mg base CX0 2 a.f_Clock_kick a.d_Clock_kick ["self"] (sp_Clock_kick K a) := by
  refine T.F_Clock_kick.ok sc_Clock_kick (fun vs H Q E h => ?_) (fun cdv A outer s H vs Q E hr h => ?_)
  · obtain ⟨wd, m, H0, g, rfl, rfl, k⟩ := h
    rfl
  · obtain ⟨wd, m, H0, g, rfl, rfl, k⟩ := h
    refine ⟨_, b_Clock_kick T (ok_Clock_all_played T) hr, ?_⟩
    show t_Clock_kick K a _ [some (.ref (wd.A 1))] _
    unfold t_Clock_kick
    unfold kickC at k
    walk_at "rd"
    split
    · simp_all
    · refine ⟨wd, m, H0, g, rfl, rfl, ?_⟩
      walk_at "rd"
      split <;> simp_all
theorem ok_Clock_tick (T : Txt K mg a) : FnOk P w K mg base CX0 1 a.f_Clock_tick a.d_Clock_tick ["self", "seconds", "standing"] (sp_Clock_tick K a) := by
  refine T.F_Clock_tick.ok sc_Clock_tick (fun vs H Q E h => ?_) (fun cdv A outer s H vs Q E hr h => ?_)
  · obtain ⟨wd, m, H0, sec, b, g, rfl, rfl, k⟩ := h
    rfl
  · obtain ⟨wd, m, H0, sec, b, g, rfl, rfl, k⟩ := h
    refine ⟨_, b_Clock_tick T hr, ?_⟩
    show t_Clock_tick K a _ [some (.ref (wd.A 1)), some (.int sec), some (.bl b)] _
    unfold t_Clock_tick
    unfold tickC at k
    walk_at "rd"
    repeat' split
    all_goals simp_all
theorem ok_Clock_whistle (T : Txt K mg a) : FnOk P w K mg base CX0 2 a.f_Clock_whistle a.d_Clock_whistle ["self"] (sp_Clock_whistle K a) := by
  refine T.F_Clock_whistle.ok sc_Clock_whistle (fun vs H Q E h => ?_) (fun cdv A outer s H vs Q E hr h => ?_)
  · obtain ⟨wd, m, H0, g, wf, rfl, rfl, k⟩ := h
    rfl
  · obtain ⟨wd, m, H0, g, wf, rfl, rfl, k⟩ := h
    refine ⟨_, b_Clock_whistle T (ok_Clock_length T) hr, ?_⟩
    show t_Clock_whistle K a _ [some (.ref (wd.A 1))] _
    unfold t_Clock_whistle
    unfold whistleC at k
    walk_at "rd"
    split
    · rename_i hrun
      refine ⟨wd, m, H0, g, wf.p, wf.r hrun, rfl, rfl, ?_⟩
      walk_at "rd"
      repeat' split
      all_goals simp_all
    · simp_all
/-- a new list laid beside the match -/
theorem newNums {wd : Wd} {m : M} {H0 H1 : Hp} {Q : VK} {ns : List Int} {xs : List V} (g : Good NC wd.A) (x : Ext wd H0 wd H1) (fr : ∀ p, H1 p = none → H0 p = none) (e : xs = ns.map V.int) (hl : ns.length ≤ 3) (k : New a wd H0 Q m ns) : gNew xs (put a wd m H1) Q := by
  subst e
  refine ⟨by rw [List.length_map]; exact Nat.le_trans hl (by decide), fun p hp => ?_⟩
  obtain ⟨o1, o2⟩ := put_none g hp
  rw [put_upd g o1]
  exact k p _ (ExtN.trans x (ExtN.alloc o2)) (fr p o2) upd_same o1
theorem ok_Clock_minute (T : Txt K mg a) : FnOk P w K mg base CX0 2 a.f_Clock_minute a.d_Clock_minute ["self"] (sp_Clock_minute K a) := by
  refine T.F_Clock_minute.ok sc_Clock_minute (fun vs H Q E h => ?_) (fun cdv A outer s H vs Q E hr h => ?_)
  · obtain ⟨wd, m, H0, g, wf, rfl, rfl, k⟩ := h
    rfl
  · obtain ⟨wd, m, H0, g, wf, rfl, rfl, k⟩ := h
    refine ⟨_, b_Clock_minute T (ok_Clock_length T) (ok_minutes_rounded_up T) hr, ?_⟩
    show t_Clock_minute K a _ [some (.ref (wd.A 1)), none, none] _
    unfold t_Clock_minute
    unfold minC at k
    walk_at "rd"
    split
    · rename_i hrun
      rw [if_pos hrun] at k
      intro p1 h1
      obtain ⟨o1, o2⟩ := put_none g h1
      rw [cut_take wf.p, put_upd g o1, g_sum (by rw [put_out o1]; exact upd_same)]
      have x : Ext wd H0 wd (upd H0 p1 (.lst ((m.lens.take m.played.toNat).map V.int))) := ExtN.alloc o2
      have fr : ∀ p, upd H0 p1 (.lst ((m.lens.take m.played.toNat).map V.int)) p = none → H0 p = none := fun p hp => by
        by_cases q : p = p1
        · subst q; exact o2
        · rwa [upd_ne q] at hp
      generalize upd H0 p1 (.lst ((m.lens.take m.played.toNat).map V.int)) = H1 at x fr ⊢
      walk_at "rd"
      refine ⟨wd, m, H1, g, wf.p, wf.r hrun, rfl, rfl, ?_⟩
      walk_at "rd"
      split
      · rename_i hb
        rw [if_pos hb] at k
        refine ⟨⟨by decide, by decide⟩, ?_⟩
        exact newNums g x fr rfl (by simp) k
      · rename_i hb
        rw [if_neg hb] at k
        refine ⟨wd, m, H1, g, wf.p, wf.r hrun, rfl, rfl, ?_⟩
        walk_at "rd"
        refine ⟨_, rfl, ?_⟩
        walk_at "rd"
        refine ⟨⟨by decide, by decide⟩, ?_⟩
        exact newNums g x fr rfl (by simp) k
    · rename_i hrun
      rw [if_neg hrun] at k
      exact newNums g ExtN.refl (fun p h => h) rfl (by simp) k
theorem ok_Field_is_standing (T : Txt K mg a) : FnOk P w K mg base CX0 1 a.f_Field_is_standing a.d_Field_is_standing ["self"] (sp_Field_is_standing K a) := by
  refine T.F_Field_is_standing.ok sc_Field_is_standing (fun vs H Q E h => ?_) (fun cdv A outer s H vs Q E hr h => ?_)
  · obtain ⟨wd, m, H0, g, rfl, rfl, k⟩ := h
    rfl
  · obtain ⟨wd, m, H0, g, rfl, rfl, k⟩ := h
    refine ⟨_, b_Field_is_standing T hr, ?_⟩
    show t_Field_is_standing K a _ [some (.ref (wd.A 2))] _
    unfold t_Field_is_standing
    unfold standing at k
    walk_at "rd"
    exact k
theorem ok_Field_is_on (T : Txt K mg a) : FnOk P w K mg base CX0 1 a.f_Field_is_on a.d_Field_is_on ["self", "team", "player"] (sp_Field_is_on K a) := by
  refine T.F_Field_is_on.ok sc_Field_is_on (fun vs H Q E h => ?_) (fun cdv A outer s H vs Q E hr h => ?_)
  · obtain ⟨wd, m, H0, t, p, g, wf, rfl, rfl, ht, hp, hp2, k⟩ := h
    rfl
  · obtain ⟨wd, m, H0, t, p, g, wf, rfl, rfl, ht, hp, hp2, k⟩ := h
    refine ⟨_, b_Field_is_on T hr, ?_⟩
    show t_Field_is_on K a _ [some (.ref (wd.A 2)), some (.int t), some (.int p)] _
    unfold t_Field_is_on
    have w1 := wf.p0
    have w2 := wf.p1
    have e1 := at_ints (l := m.pl0) hp (by omega)
    have e2 := at_ints (l := m.pl1) hp (by omega)
    rcases ht with rfl | rfl
    · unfold pl at k
      repeat (first | walk_at "rd" | simp only [e1])
      exact k
    · unfold pl at k
      repeat (first | walk_at "rd" | simp only [e2])
      exact k
theorem ponN_succ {l : List Int} {n : Nat} : ponN l (n + 1) = if l.getD n 0 = 1 then ponN l n ++ [(n : Int)] else ponN l n := by
  unfold ponN
  rw [List.range_succ, List.filter_append, List.map_append]
  by_cases q : l.getD n 0 = 1
  · rw [if_pos q, List.filter_cons_of_pos (by simpa using q)]
    rfl
  · rw [if_neg q, List.filter_cons_of_neg (by simpa using q)]
    simp
theorem ponN_len {l : List Int} {n : Nat} : (ponN l n).length ≤ n := by
  unfold ponN
  rw [List.length_map]
  exact Nat.le_trans (List.length_filter_le _ _) (by simp)
theorem ok_Field_players_on (T : Txt K mg a) : FnOk P w K mg base CX0 2 a.f_Field_players_on a.d_Field_players_on ["self", "team"] (sp_Field_players_on K a) := by
  refine T.F_Field_players_on.ok sc_Field_players_on (fun vs H Q E h => ?_) (fun cdv A outer s H vs Q E hr h => ?_)
  · obtain ⟨wd, m, H0, t, g, wf, rfl, rfl, ht, k⟩ := h
    rfl
  · obtain ⟨wd, m, H0, t, g, wf, rfl, rfl, ht, k⟩ := h
    refine ⟨_, b_Field_players_on T (ok_Field_is_on T) hr, ?_⟩
    show t_Field_players_on K a _ [some (.ref (wd.A 2)), some (.int t), none] _
    unfold t_Field_players_on
    walk_at "r0"
    refine ⟨18, rfl, by decide, by decide, fun D hD => ?_⟩
    obtain ⟨o1, o2⟩ := put_none g hD
    refine lc_range (lo := 0) (n := 18) (fun i H' => H' = put a wd m (upd H0 D (.lst ((ponN (pl m t) i).map V.int)))) (put_upd g o1) (fun i H' hi e => ?_) (fun H' e => ?_)
    · subst e
      show wipe ([some (.ref (wd.A 2)), some (.int t), some (.int (0 + (i : Int)))] : L2.St) [2] = wipe [some (.ref (wd.A 2)), some (.int t), none] [2] ∧ _
      refine ⟨rfl, ?_⟩
      simp only [wipe, List.set_cons_zero, List.set_cons_succ]
      walk_at "rd"
      refine ⟨wd, m, _, t, _, g, wf, rfl, rfl, ht, by omega, by omega, ?_⟩
      rw [show (0 + (i : Int)).toNat = i by omega]
      walk_at "rd"
      have hD2 : ∀ xs, put a wd m (upd H0 D (.lst xs)) D = some (.lst xs) := fun xs => by rw [put_out o1]; exact upd_same
      split
      · rename_i q
        refine ⟨_, hD2 _, ?_, ?_⟩
        · rw [List.length_map]
          exact Nat.lt_of_le_of_lt ponN_len (Nat.lt_of_lt_of_le hi (by decide))
        · rw [put_upd g o1, upd_upd, ponN_succ, if_pos q, List.map_append, Int.zero_add]
          rfl
      · rename_i q
        rw [ponN_succ, if_neg q]
    · subst e
      exact k D o2 o1
theorem ok_Field_too_few (T : Txt K mg a) : FnOk P w K mg base CX0 3 a.f_Field_too_few a.d_Field_too_few ["self", "team"] (sp_Field_too_few K a) := by
  refine T.F_Field_too_few.ok sc_Field_too_few (fun vs H Q E h => ?_) (fun cdv A outer s H vs Q E hr h => ?_)
  · obtain ⟨wd, m, H0, t, g, wf, rfl, rfl, ht, k⟩ := h
    rfl
  · obtain ⟨wd, m, H0, t, g, wf, rfl, rfl, ht, k⟩ := h
    refine ⟨_, b_Field_too_few T (ok_Field_players_on T) hr, ?_⟩
    show t_Field_too_few K a _ [some (.ref (wd.A 2)), some (.int t)] _
    unfold t_Field_too_few
    unfold few at k
    walk_at "rd"
    refine ⟨wd, m, H0, t, g, wf, rfl, rfl, ht, fun p o2 o1 => ?_⟩
    show rLenP [.ref p] _ _
    rw [g_len (by rw [put_out o1]; exact upd_same), List.length_map]
    walk_at "rd"
    exact k _ (ExtN.alloc o2)
theorem ok_as_bits (T : Txt K mg a) : FnOk P w K mg base CX0 1 a.f_as_bits a.d_as_bits ["players"] (sp_as_bits K a) := by
  refine T.F_as_bits.ok sc_as_bits (fun vs H Q E h => ?_) (fun cdv A outer s H vs Q E hr h => ?_)
  · obtain ⟨l, ps, rfl, hl, k⟩ := h
    rfl
  · obtain ⟨l, ps, rfl, hl, k⟩ := h
    refine ⟨_, b_as_bits T hr, ?_⟩
    show t_as_bits K a _ [some (.ref l), none, none, none] _
    unfold t_as_bits
    walk_at "r0"
    refine ⟨18, rfl, by decide, by decide, ?_⟩
    refine for_range (lo := 0) (n := 18) (fun i σ H' => H' = H ∧ ∃ c, σ = [some (.ref l), some (.int (bitsTo ps i)), some (.int (2 ^ i)), c]) ⟨rfl, none, rfl⟩ (fun i σ H' hi e => ?_) (fun σ H' e => ?_)
    · obtain ⟨rfl, c, rfl⟩ := e
      show tSeq _ _ _ [some (.ref l), some (.int (bitsTo ps i)), some (.int (2 ^ i)), some (.int (0 + (i : Int)))] _
      walk_at "r0"
      rw [g_in hl, x_bl, i_dec, Int.zero_add]
      have e2 : (2 : Int) * 2 ^ i = 2 ^ (i + 1) := by rw [Int.pow_succ, Int.mul_comm]
      split
      · rename_i q
        walk_at "r0"
        refine ⟨.inl ⟨by decide, by decide⟩, some (.int (i : Int)), ?_⟩
        rw [show bitsTo ps (i + 1) = bitsTo ps i + 2 ^ i from if_pos q, ← e2]
      · rename_i q
        try walk_at "r0"
        refine ⟨.inl ⟨by decide, by decide⟩, some (.int (i : Int)), ?_⟩
        rw [show bitsTo ps (i + 1) = bitsTo ps i from if_neg q, ← e2]
    · obtain ⟨rfl, c, rfl⟩ := e
      walk_at "r0"
      exact k
theorem ok_Field_on (T : Txt K mg a) : FnOk P w K mg base CX0 3 a.f_Field_on a.d_Field_on ["self", "team"] (sp_Field_on K a) := by
  refine T.F_Field_on.ok sc_Field_on (fun vs H Q E h => ?_) (fun cdv A outer s H vs Q E hr h => ?_)
  · obtain ⟨wd, m, H0, t, g, wf, rfl, rfl, ht, k⟩ := h
    rfl
  · obtain ⟨wd, m, H0, t, g, wf, rfl, rfl, ht, k⟩ := h
    refine ⟨_, b_Field_on T (ok_Field_players_on T) (ok_as_bits T) hr, ?_⟩
    show t_Field_on K a _ [some (.ref (wd.A 2)), some (.int t), none] _
    unfold t_Field_on
    unfold onF at k
    walk_at "rd"
    split
    · rename_i h1
      rw [if_pos h1] at k
      exact newNums g ExtN.refl (fun p h => h) rfl (by simp) k
    · rename_i h1
      rw [if_neg h1] at k
      refine ⟨wd, m, H0, t, g, wf, rfl, rfl, by omega, fun p o2 o1 => ?_⟩
      walk_at "rd"
      have hp : put a wd m (upd H0 p (.lst ((pon m t).map V.int))) p = some (.lst ((pon m t).map V.int)) := by rw [put_out o1]; exact upd_same
      rw [g_len hp, List.length_map]
      try walk_at "rd"
      refine ⟨p, pon m t, rfl, hp, ?_⟩
      try walk_at "rd"
      refine newNums g (ExtN.alloc o2) (fun q hq => ?_) rfl (by simp) k
      by_cases z : q = p
      · subst z; exact o2
      · rwa [upd_ne z] at hq
theorem ok_Field_card (T : Txt K mg a) : FnOk P w K mg base CX0 1 a.f_Field_card a.d_Field_card ["self", "team", "player", "colour"] (sp_Field_card K a) := by
  refine T.F_Field_card.ok sc_Field_card (fun vs H Q E h => ?_) (fun cdv A outer s H vs Q E hr h => ?_)
  · obtain ⟨wd, m, H0, t, p, c, g, wf, rfl, rfl, ht, hp, hc, k⟩ := h
    rfl
  · obtain ⟨wd, m, H0, t, p, c, g, wf, rfl, rfl, ht, hp, hc, k⟩ := h
    refine ⟨_, b_Field_card T hr, ?_⟩
    show t_Field_card K a _ [some (.ref (wd.A 2)), some (.int t), some (.int p), some (.int c)] _
    unfold t_Field_card
    unfold cardF at k
    walk_at "rd"
    by_cases h1 : 1 < t
    · simp only [if_pos h1] at k ⊢
      exact k
    by_cases h2 : 18 ≤ p
    · simp only [if_neg h1, if_pos h2] at k ⊢
      exact k
    by_cases h3 : 1 < c
    · simp only [if_neg h1, if_neg h2, if_pos h3] at k ⊢
      exact k
    have w1 := wf.p0
    have w2 := wf.p1
    have w3 := wf.b0
    have w4 := wf.b1
    have e1 := at_ints (l := m.pl0) hp (by omega)
    have e2 := at_ints (l := m.pl1) hp (by omega)
    have e3 := at_bls (l := m.bk0) hp (by omega)
    have e4 := at_bls (l := m.bk1) hp (by omega)
    have s4 : ∀ z QH, rSetL (.ref (wd.A 4)) (.int p) (.int z) (put a wd m H0) QH = _ := fun z QH => se_4 g hp (by omega)
    have s5 : ∀ z QH, rSetL (.ref (wd.A 5)) (.int p) (.int z) (put a wd m H0) QH = _ := fun z QH => se_5 g hp (by omega)
    have s7 : ∀ z QH, rSetL (.ref (wd.A 7)) (.int p) (.bl z) (put a wd m H0) QH = _ := fun z QH => se_7 g hp (by omega)
    have s8 : ∀ z QH, rSetL (.ref (wd.A 8)) (.int p) (.bl z) (put a wd m H0) QH = _ := fun z QH => se_8 g hp (by omega)
    simp only [if_neg h1, if_neg h2, if_neg h3] at k ⊢
    obtain rfl | rfl : t = 0 ∨ t = 1 := by omega
    · unfold pl bk setPl setBk at k
      repeat (first | walk_at "rd" | simp only [e1, e3, s4, s7])
      repeat' split
      all_goals simp_all
    · unfold pl bk setPl setBk at k
      repeat (first | walk_at "rd" | simp only [e2, e4, s5, s8])
      repeat' split
      all_goals simp_all
theorem ok_Field_needs_window (T : Txt K mg a) : FnOk P w K mg base CX0 1 a.f_Field_needs_window a.d_Field_needs_window ["self", "team"] (sp_Field_needs_window K a) := by
  refine T.F_Field_needs_window.ok sc_Field_needs_window (fun vs H Q E h => ?_) (fun cdv A outer s H vs Q E hr h => ?_)
  · obtain ⟨wd, m, H0, t, g, rfl, rfl, ht, k⟩ := h
    rfl
  · obtain ⟨wd, m, H0, t, g, rfl, rfl, ht, k⟩ := h
    refine ⟨_, b_Field_needs_window T hr, ?_⟩
    show t_Field_needs_window K a _ [some (.ref (wd.A 2)), some (.int t)] _
    unfold t_Field_needs_window
    unfold needsW iws at k
    rcases ht with rfl | rfl <;>
    · walk_at "rd"
      split <;> simp_all
theorem ok_Field_take_window (T : Txt K mg a) : FnOk P w K mg base CX0 2 a.f_Field_take_window a.d_Field_take_window ["self", "team"] (sp_Field_take_window K a) := by
  refine T.F_Field_take_window.ok sc_Field_take_window (fun vs H Q E h => ?_) (fun cdv A outer s H vs Q E hr h => ?_)
  · obtain ⟨wd, m, H0, t, g, rfl, rfl, ht, k⟩ := h
    rfl
  · obtain ⟨wd, m, H0, t, g, rfl, rfl, ht, k⟩ := h
    refine ⟨_, b_Field_take_window T (ok_Field_needs_window T) hr, ?_⟩
    show t_Field_take_window K a _ [some (.ref (wd.A 2)), some (.int t)] _
    unfold t_Field_take_window
    unfold takeW at k
    walk_at "rd"
    refine ⟨wd, m, H0, t, g, rfl, rfl, ht, ?_⟩
    rcases ht with rfl | rfl <;>
    · walk_at "rd"
      split <;> simp_all
theorem ok_Field_change_refusal (T : Txt K mg a) : FnOk P w K mg base CX0 2 a.f_Field_change_refusal a.d_Field_change_refusal ["self", "team", "leaving", "coming", "barred"] (sp_Field_change_refusal K a) := by
  refine T.F_Field_change_refusal.ok sc_Field_change_refusal (fun vs H Q E h => ?_) (fun cdv A outer s H vs Q E hr h => ?_)
  · obtain ⟨wd, m, H0, t, o, i, b, g, wf, rfl, rfl, ht, ho, hi, k⟩ := h
    rfl
  · obtain ⟨wd, m, H0, t, o, i, b, g, wf, rfl, rfl, ht, ho, hi, k⟩ := h
    refine ⟨_, b_Field_change_refusal T (ok_Field_is_standing T) (ok_Field_is_on T) (ok_Field_needs_window T) hr, ?_⟩
    show t_Field_change_refusal K a _ [some (.ref (wd.A 2)), some (.int t), some (.int o), some (.int i), some (.bl b)] _
    unfold t_Field_change_refusal
    unfold changeR at k
    walk_at "rd"
    by_cases h1 : 1 < t
    · simp only [if_pos h1] at k ⊢
      exact k
    by_cases h2 : 18 ≤ o
    · simp only [if_neg h1, if_pos h2] at k ⊢
      exact k
    by_cases h3 : 18 ≤ i
    · simp only [if_neg h1, if_neg h2, if_pos h3] at k ⊢
      exact k
    have w1 := wf.p0
    have w2 := wf.p1
    have e3 := at_ints (l := m.pl0) hi (by omega)
    have e4 := at_ints (l := m.pl1) hi (by omega)
    simp only [if_neg h1, if_neg h2, if_neg h3] at k ⊢
    have ht' : t = 0 ∨ t = 1 := by omega
    cases b with
    | true => simpa using k
    | false =>
      simp only [Bool.false_eq_true, if_false] at k ⊢
      refine ⟨wd, m, H0, g, rfl, rfl, ?_⟩
      walk_at "rd"
      cases hs : standing m with
      | false => simpa [hs] using k
      | true =>
        simp only [hs, if_true] at k ⊢
        refine ⟨wd, m, H0, t, o, g, wf, rfl, rfl, ht', ho, by omega, ?_⟩
        walk_at "rd"
        split
        · rename_i h4
          rw [if_pos h4] at k
          rcases ht' with rfl | rfl
          · unfold pl chs wis at k
            repeat (first | walk_at "rd" | simp only [e3])
            split
            · split
              · simp_all
              · refine ⟨wd, m, H0, 0, g, rfl, rfl, .inl rfl, ?_⟩
                walk_at "rd"
                repeat' split
                all_goals simp_all
            · simp_all
          · unfold pl chs wis at k
            repeat (first | walk_at "rd" | simp only [e4])
            split
            · split
              · simp_all
              · refine ⟨wd, m, H0, 1, g, rfl, rfl, .inr rfl, ?_⟩
                walk_at "rd"
                repeat' split
                all_goals simp_all
            · simp_all
        · rename_i h4
          rw [if_neg h4] at k
          exact k
theorem ok_Field_set_play (T : Txt K mg a) : FnOk P w K mg base CX0 1 a.f_Field_set_play a.d_Field_set_play ["self", "play"] (sp_Field_set_play K a) := by
  refine T.F_Field_set_play.ok sc_Field_set_play (fun vs H Q E h => ?_) (fun cdv A outer s H vs Q E hr h => ?_)
  · obtain ⟨wd, m, H0, p, g, rfl, rfl, k⟩ := h
    rfl
  · obtain ⟨wd, m, H0, p, g, rfl, rfl, k⟩ := h
    refine ⟨_, b_Field_set_play T hr, ?_⟩
    show t_Field_set_play K a _ [some (.ref (wd.A 2)), some (.int p)] _
    unfold t_Field_set_play
    unfold setPlay at k
    walk_at "rd"
    split
    · rename_i hp
      simp only [if_pos hp] at k
      refine ⟨by decide, fun q hq => ?_⟩
      obtain ⟨o1, o2⟩ := put_none g hq
      rw [mv_Field_in_window T g o1]
      have g2 : Good NC (mv wd 11 q).A := mv_good g o1
      rw [show wd.A 2 = (mv wd 11 q).A 2 from rfl]
      have k := fun u => k (mv wd 11 q) _ g2 (ExtN.move (i := 11) (u := u) (by decide) o2) rfl rfl rfl rfl
      have g := g2
      walk_at "rd"
      exact k _
    · rename_i hp
      simp only [if_neg hp] at k
      exact k wd H0 g ExtN.refl rfl rfl rfl rfl
theorem takeW_wf {m : M} {t : Int} (h : Wf m) : Wf (takeW m t) := by
  obtain ⟨h1, h2, h3, h4, h5, h6⟩ := h
  unfold takeW
  repeat' split
  all_goals exact ⟨h1, h2, h3, h4, h5, h6⟩
theorem setPl_wf {m : M} {t p z : Int} (h : Wf m) : Wf (setPl m t p z) := by
  obtain ⟨h1, h2, h3, h4, h5, h6⟩ := h
  unfold setPl
  split
  · exact ⟨by simpa using h1, h2, h3, h4, h5, h6⟩
  · exact ⟨h1, by simpa using h2, h3, h4, h5, h6⟩
theorem setBk_wf {m : M} {t p : Int} (h : Wf m) : Wf (setBk m t p) := by
  obtain ⟨h1, h2, h3, h4, h5, h6⟩ := h
  unfold setBk
  split
  · exact ⟨h1, h2, by simpa using h3, h4, h5, h6⟩
  · exact ⟨h1, h2, h3, by simpa using h4, h5, h6⟩
theorem cardF_wf {m : M} {t p c : Int} (h : Wf m) : Wf (cardF m t p c).2 := by
  unfold cardF
  repeat' split
  all_goals first | exact h | exact setPl_wf h | exact setBk_wf h
theorem ok_Field_change (T : Txt K mg a) : FnOk P w K mg base CX0 3 a.f_Field_change a.d_Field_change ["self", "team", "leaving", "coming", "barred"] (sp_Field_change K a) := by
  refine T.F_Field_change.ok sc_Field_change (fun vs H Q E h => ?_) (fun cdv A outer s H vs Q E hr h => ?_)
  · obtain ⟨wd, m, H0, t, o, i, b, g, wf, rfl, rfl, ht, ho, hi, k⟩ := h
    rfl
  · obtain ⟨wd, m, H0, t, o, i, b, g, wf, rfl, rfl, ht, ho, hi, k⟩ := h
    refine ⟨_, b_Field_change T (ok_Field_change_refusal T) (ok_Field_take_window T) hr, ?_⟩
    show t_Field_change K a _ [some (.ref (wd.A 2)), some (.int t), some (.int o), some (.int i), some (.bl b), none] _
    unfold t_Field_change
    unfold changeF at k
    walk_at "rd"
    refine ⟨wd, m, H0, t, o, i, b, g, wf, rfl, rfl, ht, ho, hi, ?_⟩
    walk_at "rd"
    by_cases hc : changeR m t o i b < 0
    · simp only [if_pos hc] at k ⊢
      exact k
    simp only [if_neg hc] at k ⊢
    have hb : ¬ 1 < t ∧ ¬ 18 ≤ o ∧ ¬ 18 ≤ i := by
      refine ⟨fun q => hc ?_, fun q => hc ?_, fun q => hc ?_⟩ <;> unfold changeR <;> repeat' split
      all_goals first | omega | (exfalso; omega)
    obtain ⟨h1, h2, h3⟩ := hb
    have ht' : t = 0 ∨ t = 1 := by omega
    refine ⟨wd, m, H0, t, g, rfl, rfl, ht', ?_⟩
    have wf2 := takeW_wf (t := t) wf
    generalize takeW m t = n at k wf2 ⊢
    have w1 := wf2.p0
    have w2 := wf2.p1
    rcases ht' with rfl | rfl
    · unfold addCh setPl chs at k
      walk_at "rd"
      simp only [se_4 g ho (show o < n.pl0.length by omega)]
      walk_at "rd"
      have s4 : ∀ (m : M) z QH, i < m.pl0.length → rSetL (.ref (wd.A 4)) (.int i) (.int z) (put a wd m H0) QH = _ := fun m z QH h => se_4 g hi h
      rw [s4 _ _ _ (by simp only [List.length_set]; omega)]
      walk_at "rd"
      simpa using k
    · unfold addCh setPl chs at k
      walk_at "rd"
      simp only [se_5 g ho (show o < n.pl1.length by omega)]
      walk_at "rd"
      have s5 : ∀ (m : M) z QH, i < m.pl1.length → rSetL (.ref (wd.A 5)) (.int i) (.int z) (put a wd m H0) QH = _ := fun m z QH h => se_5 g hi h
      rw [s5 _ _ _ (by simp only [List.length_set]; omega)]
      walk_at "rd"
      simpa using k
theorem ok_Field_goal (T : Txt K mg a) : FnOk P w K mg base CX0 2 a.f_Field_goal a.d_Field_goal ["self", "team", "player", "own"] (sp_Field_goal K a) := by
  refine T.F_Field_goal.ok sc_Field_goal (fun vs H Q E h => ?_) (fun cdv A outer s H vs Q E hr h => ?_)
  · obtain ⟨wd, m, H0, t, p, o, g, wf, rfl, rfl, ht, hp, ho, k⟩ := h
    rfl
  · obtain ⟨wd, m, H0, t, p, o, g, wf, rfl, rfl, ht, hp, ho, k⟩ := h
    refine ⟨_, b_Field_goal T (ok_Field_is_standing T) (ok_Field_is_on T) (ok_other T) hr, ?_⟩
    show t_Field_goal K a _ [some (.ref (wd.A 2)), some (.int t), some (.int p), some (.int o), none] _
    unfold t_Field_goal
    unfold goalF at k
    walk_at "rd"
    by_cases h1 : 1 < t
    · simp only [if_pos h1] at k ⊢
      exact k
    by_cases h2 : 18 ≤ p
    · simp only [if_neg h1, if_pos h2] at k ⊢
      exact k
    by_cases h3 : 1 < o
    · simp only [if_neg h1, if_neg h2, if_pos h3] at k ⊢
      exact k
    simp only [if_neg h1, if_neg h2, if_neg h3] at k ⊢
    have ht' : t = 0 ∨ t = 1 := by omega
    refine ⟨wd, m, H0, g, rfl, rfl, ?_⟩
    walk_at "rd"
    split
    · rename_i h4
      rw [if_pos h4] at k
      exact k
    rename_i h4
    rw [if_neg h4] at k
    refine ⟨wd, m, H0, t, p, g, wf, rfl, rfl, ht', hp, by omega, ?_⟩
    walk_at "rd"
    split
    · rename_i h5
      rw [if_pos h5] at k
      by_cases h6 : o = 1
      · simp only [if_pos h6] at k ⊢
        refine ⟨t, rfl, ?_⟩
        rcases ht' with rfl | rfl
        · rw [show (1 : Int) - 0 = 1 from rfl] at k ⊢
          unfold scs addSc at k
          simp only [show ¬ (1 : Int) = 0 by decide, if_false] at k
          walk_at "rd"
          split <;> simp_all
        · rw [show (1 : Int) - 1 = 0 from rfl] at k ⊢
          unfold scs addSc at k
          simp only [if_true] at k
          walk_at "rd"
          split <;> simp_all
      · simp only [if_neg h6] at k ⊢
        rcases ht' with rfl | rfl
        · unfold scs addSc at k
          simp only [if_true] at k
          walk_at "rd"
          split <;> simp_all
        · unfold scs addSc at k
          simp only [show ¬ (1 : Int) = 0 by decide, if_false] at k
          walk_at "rd"
          split <;> simp_all
    · rename_i h5
      rw [if_neg h5] at k
      exact k
theorem ok_Kicks_all_taken (T : Txt K mg a) : FnOk P w K mg base CX0 1 a.f_Kicks_all_taken a.d_Kicks_all_taken ["self"] (sp_Kicks_all_taken K a) := by
  refine T.F_Kicks_all_taken.ok sc_Kicks_all_taken (fun vs H Q E h => ?_) (fun cdv A outer s H vs Q E hr h => ?_)
  · obtain ⟨wd, m, H0, g, rfl, rfl, k⟩ := h
    rfl
  · obtain ⟨wd, m, H0, g, rfl, rfl, k⟩ := h
    refine ⟨_, b_Kicks_all_taken T hr, ?_⟩
    show t_Kicks_all_taken K a _ [some (.ref (wd.A 0))] _
    unfold t_Kicks_all_taken
    walk_at "rk"
    exact k
theorem ok_Kicks_round_is_done (T : Txt K mg a) : FnOk P w K mg base CX0 1 a.f_Kicks_round_is_done a.d_Kicks_round_is_done ["self", "players_on"] (sp_Kicks_round_is_done K a) := by
  refine T.F_Kicks_round_is_done.ok sc_Kicks_round_is_done (fun vs H Q E h => ?_) (fun cdv A outer s H vs Q E hr h => ?_)
  · obtain ⟨wd, m, H0, l, ps, g, ht, rfl, rfl, ol, hl, hn, k⟩ := h
    rfl
  · obtain ⟨wd, m, H0, l, ps, g, ht, rfl, rfl, ol, hl, hn, k⟩ := h
    refine ⟨_, b_Kicks_round_is_done T hr, ?_⟩
    show t_Kicks_round_is_done K a _ [some (.ref (wd.A 0)), some (.ref l), none] _
    unfold t_Kicks_round_is_done
    unfold roundDone at k
    walk_at "r0"
    have hl' : ∀ {D : Addr} {o : HO}, H0 D = none → kput a wd m (upd H0 D o) l = some (.lst (List.map V.int ps)) := fun hD => by rw [kput_out ol, upd_ne (ne_of_none hl hD)]; exact hl
    refine ⟨.ref l, rfl, l, rfl, ⟨_, SqL.of (by rw [kput_out ol]; exact hl)⟩, fun D hD => ?_⟩
    obtain ⟨o1, o2⟩ := kput_none g hD
    refine lc_list (xs := ps.map V.int) (fun i H' => H' = kput a wd m (upd H0 D (.lst (((ps.take i).map fun p => decide (p ∈ rnd m m.turn)).map V.bl)))) (kput_upd g o1) (fun i H' hi e => ?_) (fun i x H' hx e => ?_) (fun H' e => ?_)
    · subst e
      exact SqL.of (hl' o2)
    · subst e
      rw [List.getElem?_map] at hx
      obtain ⟨p, hp, rfl⟩ := Option.map_eq_some_iff.mp hx
      show wipe ([some (.ref (wd.A 0)), some (.ref l), some (.int p)] : L2.St) [2] = wipe [some (.ref (wd.A 0)), some (.ref l), none] [2] ∧ _
      refine ⟨rfl, ?_⟩
      have hi : i < ps.length := (List.getElem?_eq_some_iff.mp hp).1
      have hD2 : ∀ xs, kput a wd m (upd H0 D (.lst xs)) D = some (.lst xs) := fun xs => by rw [kput_out o1]; exact upd_same
      have hx2 : ps.take (i + 1) = ps.take i ++ [p] := by rw [List.take_add_one, hp]; rfl
      simp only [tYes, wipe, if_true, List.set_cons_zero, List.set_cons_succ]
      have fin : ∀ b : Bool, b = decide (p ∈ rnd m m.turn) → ∃ acc, kput a wd m (upd H0 D (.lst (((ps.take i).map fun p => decide (p ∈ rnd m m.turn)).map V.bl))) D = some (.lst acc) ∧ acc.length < sizeLine ∧
          upd (kput a wd m (upd H0 D (.lst (((ps.take i).map fun p => decide (p ∈ rnd m m.turn)).map V.bl)))) D (.lst (acc ++ [.bl b])) = kput a wd m (upd H0 D (.lst (((ps.take (i + 1)).map fun p => decide (p ∈ rnd m m.turn)).map V.bl))) := fun b hb => by
        refine ⟨_, hD2 _, ?_, ?_⟩
        · rw [List.length_map, List.length_map, List.length_take]
          exact Nat.lt_of_le_of_lt (Nat.min_le_left _ _) (Nat.lt_of_lt_of_le hi (Nat.le_trans hn (by decide)))
        · rw [kput_upd g o1, upd_upd, hx2, List.map_append, List.map_append, hb]
          rfl
      unfold rnd at fin ⊢
      rcases ht with e | e
      · rw [e] at fin ⊢
        repeat (first | walk_at "rk" | simp only [e])
        exact fin _ rfl
      · rw [e] at fin ⊢
        repeat (first | walk_at "rk" | simp only [e])
        exact fin _ rfl
    · subst e
      refine ⟨D, (ps.take (ps.map V.int).length).map fun p => decide (p ∈ rnd m m.turn), rfl, by rw [kput_out o1]; exact upd_same, ?_⟩
      rw [List.length_map, List.take_of_length_le (Nat.le_refl _)]
      exact k _ (ExtN.alloc o2)
theorem ok_Kicks_must_wait (T : Txt K mg a) : FnOk P w K mg base CX0 2 a.f_Kicks_must_wait a.d_Kicks_must_wait ["self", "player", "players_on"] (sp_Kicks_must_wait K a) := by
  refine T.F_Kicks_must_wait.ok sc_Kicks_must_wait (fun vs H Q E h => ?_) (fun cdv A outer s H vs Q E hr h => ?_)
  · obtain ⟨wd, m, H0, p, l, ps, g, ht, rfl, rfl, ol, hl, hn, k⟩ := h
    rfl
  · obtain ⟨wd, m, H0, p, l, ps, g, ht, rfl, rfl, ol, hl, hn, k⟩ := h
    refine ⟨_, b_Kicks_must_wait T (ok_Kicks_round_is_done T) hr, ?_⟩
    show t_Kicks_must_wait K a _ [some (.ref (wd.A 0)), some (.int p), some (.ref l)] _
    unfold t_Kicks_must_wait
    unfold mustWait at k
    rcases ht with e | e
    · have er : rnd m m.turn = m.ro0 := by unfold rnd; rw [e]; rfl
      rw [er] at k
      repeat (first | walk_at "rk" | simp only [e])
      split
      · rename_i q
        refine ⟨wd, m, H0, l, ps, g, .inl e, rfl, rfl, ol, hl, hn, fun H1 x => ?_⟩
        have k := k _ x
        rw [if_pos q] at k
        walk_at "rk"
        exact k
      · rename_i q
        have k := k _ ExtN.refl
        rw [if_neg q] at k
        exact k
    · have er : rnd m m.turn = m.ro1 := by unfold rnd; rw [e]; rfl
      rw [er] at k
      repeat (first | walk_at "rk" | simp only [e])
      split
      · rename_i q
        refine ⟨wd, m, H0, l, ps, g, .inr e, rfl, rfl, ol, hl, hn, fun H1 x => ?_⟩
        have k := k _ x
        rw [if_pos q] at k
        walk_at "rk"
        exact k
      · rename_i q
        have k := k _ ExtN.refl
        rw [if_neg q] at k
        exact k
theorem ok_Kicks_left (T : Txt K mg a) : FnOk P w K mg base CX0 2 a.f_Kicks_left a.d_Kicks_left ["self", "team"] (sp_Kicks_left K a) := by
  refine T.F_Kicks_left.ok sc_Kicks_left (fun vs H Q E h => ?_) (fun cdv A outer s H vs Q E hr h => ?_)
  · obtain ⟨wd, m, H0, t, g, rfl, rfl, ht, k⟩ := h
    rfl
  · obtain ⟨wd, m, H0, t, g, rfl, rfl, ht, k⟩ := h
    refine ⟨_, b_Kicks_left T (ok_other T) hr, ?_⟩
    show t_Kicks_left K a _ [some (.ref (wd.A 0)), some (.int t)] _
    unfold t_Kicks_left
    unfold leftK tks at k
    rcases ht with rfl | rfl
    · walk_at "rk"
      rw [show (1 : Int) - 0 = 1 from rfl] at k
      generalize hm : (if m.tk1 < m.tk0 then m.tk1 else m.tk0) = mn at k ⊢
      split
      · rename_i q
        rw [if_pos q, if_pos rfl] at k
        exact k
      · rename_i q
        rw [if_neg q] at k
        simp only [if_true, show ¬ (1 : Int) = 0 by decide, if_false] at k
        refine ⟨_, rfl, ?_⟩
        rw [show (1 : Int) - 0 = 1 from rfl]
        walk_at "rk"
        exact k
    · walk_at "rk"
      rw [show (1 : Int) - 1 = 0 from rfl] at k
      generalize hm : (if m.tk1 < m.tk0 then m.tk1 else m.tk0) = mn at k ⊢
      split
      · rename_i q
        rw [if_pos q, if_neg (by decide)] at k
        exact k
      · rename_i q
        rw [if_neg q] at k
        simp only [if_true, show ¬ (1 : Int) = 0 by decide, if_false] at k
        refine ⟨_, rfl, ?_⟩
        rw [show (1 : Int) - 1 = 0 from rfl]
        walk_at "rk"
        exact k
theorem ok_Kicks_decided_for (T : Txt K mg a) : FnOk P w K mg base CX0 3 a.f_Kicks_decided_for a.d_Kicks_decided_for ["self"] (sp_Kicks_decided_for K a) := by
  refine T.F_Kicks_decided_for.ok sc_Kicks_decided_for (fun vs H Q E h => ?_) (fun cdv A outer s H vs Q E hr h => ?_)
  · obtain ⟨wd, m, H0, g, rfl, rfl, k⟩ := h
    rfl
  · obtain ⟨wd, m, H0, g, rfl, rfl, k⟩ := h
    refine ⟨_, b_Kicks_decided_for T (ok_other T) (ok_Kicks_left T) (ok_won_by T) hr, ?_⟩
    show t_Kicks_decided_for K a _ [some (.ref (wd.A 0)), none, none] _
    unfold t_Kicks_decided_for
    unfold decidedK at k
    rw [q_seq]
    refine ⟨by decide, fun tp htp => ?_⟩
    obtain ⟨o1, o2⟩ := kput_none g htp
    have k := k _ (ExtN.alloc (u := .tup [.int 0, .int 1]) o2)
    refine ⟨tp, rfl, ⟨_, SqT.of upd_same⟩, ?_⟩
    rw [kput_upd g o1]
    refine for_tup (xs := [.int 0, .int 1]) (fun i σ H' => H' = kput a wd m (upd H0 tp (.tup [.int 0, .int 1])) ∧ ∃ c1 c2, σ = [some (.ref (wd.A 0)), c1, c2] ∧ (0 < i → ¬ m.hi1 + leftK m 1 < m.hi0) ∧ (1 < i → ¬ m.hi0 + leftK m 0 < m.hi1))
      ⟨rfl, none, none, rfl, fun z => absurd z (by omega), fun z => absurd z (by omega)⟩ (fun i σ H' hi e => ?_) (fun i x σ H' hx e => ?_) (fun σ H' e => ?_)
    · obtain ⟨rfl, _⟩ := e
      exact SqT.of (by rw [kput_out o1]; exact upd_same)
    · obtain ⟨rfl, c1, c2, rfl, h1, h2⟩ := e
      generalize upd H0 tp (.tup [.int 0, .int 1]) = H1 at k ⊢
      match i, hx with
      | 0, hx =>
        obtain rfl : V.int 0 = x := Option.some.inj hx
        show tSeq _ _ _ [some (.ref (wd.A 0)), some (.int 0), c2] _
        walk_at "rk"
        refine ⟨_, rfl, ?_⟩
        rw [show (1 : Int) - 0 = 1 from rfl]
        walk_at "rk"
        refine ⟨wd, m, H1, 1, g, rfl, rfl, .inr rfl, ?_⟩
        walk_at "rk"
        split
        · rename_i q
          rw [if_pos q] at k
          exact ⟨_, rfl, k⟩
        · rename_i q
          exact ⟨_, _, rfl, fun _ => q, fun z => absurd z (by omega)⟩
      | 1, hx =>
        obtain rfl : V.int 1 = x := Option.some.inj hx
        have h1 := h1 (by omega)
        show tSeq _ _ _ [some (.ref (wd.A 0)), some (.int 1), c2] _
        walk_at "rk"
        refine ⟨_, rfl, ?_⟩
        rw [show (1 : Int) - 1 = 0 from rfl]
        walk_at "rk"
        refine ⟨wd, m, H1, 0, g, rfl, rfl, .inl rfl, ?_⟩
        walk_at "rk"
        split
        · rename_i q
          rw [if_neg h1, if_pos q] at k
          exact ⟨_, rfl, k⟩
        · rename_i q
          exact ⟨_, _, rfl, fun _ => h1, fun _ => q⟩
      | n + 2, hx => simp at hx
    · obtain ⟨rfl, c1, c2, rfl, h1, h2⟩ := e
      rw [if_neg (h1 (by decide)), if_neg (h2 (by decide))] at k
      walk_at "r0"
      exact k
theorem ok_Kicks_take (T : Txt K mg a) : FnOk P w K mg base CX0 4 a.f_Kicks_take a.d_Kicks_take ["self", "player", "scored", "players_on"] (sp_Kicks_take K a) := by
  refine T.F_Kicks_take.ok sc_Kicks_take (fun vs H Q E h => ?_) (fun cdv A outer s H vs Q E hr h => ?_)
  · obtain ⟨wd, m, H0, p, sc, l, ps, g, wf, rfl, rfl, ol, hl, hn, k⟩ := h
    rfl
  · obtain ⟨wd, m, H0, p, sc, l, ps, g, wf, rfl, rfl, ol, hl, hn, k⟩ := h
    refine ⟨_, b_Kicks_take T (ok_Kicks_round_is_done T) (ok_other T) (ok_Kicks_decided_for T) hr, ?_⟩
    show t_Kicks_take K a _ [some (.ref (wd.A 0)), some (.int p), some (.int sc), some (.ref l), none] _
    unfold t_Kicks_take
    unfold takeK at k
    have z0 := wf.r0
    have z1 := wf.r1
    have z2 := wf.s
    have hz : sizeLine = 16777216 := sizeLine_eq
    walk_at "rk"
    refine ⟨wd, m, H0, l, ps, g, wf.t, rfl, rfl, ol, hl, hn, fun H1 x1 => ?_⟩
    walk_at "rk"
    rcases wf.t with e | e
    · rw [e] at k
      simp only [e]
      split
      · rename_i hd
        rw [if_pos hd] at k
        refine ⟨by decide, fun q hq => ?_⟩
        obtain ⟨o1, o2⟩ := kput_none g hq
        rw [kput_upd g o1]
        walk_at "rk"
        rw [← kput_upd g o1, klm_5_0 g o1]
        have g2 : Good NK (kmv wd 3 q).A := kmv_good g o1
        rw [show wd.A 0 = (kmv wd 3 q).A 0 from rfl]
        have x2 := fun u => ExtN.trans x1 (ExtN.move (n := NK) (A := wd.A) (i := 3) (u := u) (by decide) o2)
        have g := g2
        have k := fun H2 x => k (kmv wd 3 q) H2 g2 x rfl
        unfold clearR pushK at k
        simp only [if_true] at k
        repeat (first | walk_at "rk" | simp only [e])
        rw [kap_3 g (by show ([] : List Int).length < sizeLine; rw [hz]; decide)]
        repeat (first | walk_at "rk" | simp only [e])
        refine ⟨_, rfl, ?_⟩
        walk_at "rk"
        exact ⟨_, _, _, g, rfl, rfl, fun H2 x => k H2 (ExtN.trans (x2 _) x)⟩
      · rename_i hd
        rw [if_neg hd] at k
        have k := fun H2 x => k wd H2 g x rfl
        unfold pushK at k
        simp only [if_true] at k
        repeat (first | walk_at "rk" | simp only [e])
        rw [kap_3 g (by omega)]
        repeat (first | walk_at "rk" | simp only [e])
        refine ⟨_, rfl, ?_⟩
        walk_at "rk"
        exact ⟨_, _, _, g, rfl, rfl, fun H2 x => k H2 (ExtN.trans x1 x)⟩
    · rw [e] at k
      simp only [e]
      split
      · rename_i hd
        rw [if_pos hd] at k
        refine ⟨by decide, fun q hq => ?_⟩
        obtain ⟨o1, o2⟩ := kput_none g hq
        rw [kput_upd g o1]
        walk_at "rk"
        rw [← kput_upd g o1, klm_5_1 g o1]
        have g2 : Good NK (kmv wd 4 q).A := kmv_good g o1
        rw [show wd.A 0 = (kmv wd 4 q).A 0 from rfl]
        have x2 := fun u => ExtN.trans x1 (ExtN.move (n := NK) (A := wd.A) (i := 4) (u := u) (by decide) o2)
        have g := g2
        have k := fun H2 x => k (kmv wd 4 q) H2 g2 x rfl
        unfold clearR pushK at k
        simp only [show ¬ (1 : Int) = 0 by decide, if_false] at k
        repeat (first | walk_at "rk" | simp only [e])
        rw [kap_4 g (by show ([] : List Int).length < sizeLine; rw [hz]; decide)]
        repeat (first | walk_at "rk" | simp only [e])
        refine ⟨_, rfl, ?_⟩
        walk_at "rk"
        exact ⟨_, _, _, g, rfl, rfl, fun H2 x => k H2 (ExtN.trans (x2 _) x)⟩
      · rename_i hd
        rw [if_neg hd] at k
        have k := fun H2 x => k wd H2 g x rfl
        unfold pushK at k
        simp only [show ¬ (1 : Int) = 0 by decide, if_false] at k
        repeat (first | walk_at "rk" | simp only [e])
        rw [kap_4 g (by omega)]
        repeat (first | walk_at "rk" | simp only [e])
        refine ⟨_, rfl, ?_⟩
        walk_at "rk"
        exact ⟨_, _, _, g, rfl, rfl, fun H2 x => k H2 (ExtN.trans x1 x)⟩
theorem ok_Kicks_init (T : Txt K mg a) : FnOk P w K mg base CX0 1 a.f_Kicks_init a.d_Kicks_init ["self", "beginner"] (sp_Kicks_init K a) := by
  refine T.F_Kicks_init.ok sc_Kicks_init (fun vs H Q E h => ?_) (fun cdv A outer s H vs Q E hr h => ?_)
  · obtain ⟨p, dx, t, rfl, hp, k⟩ := h
    rfl
  · obtain ⟨p, dx, t, rfl, hp, k⟩ := h
    refine ⟨_, b_Kicks_init T hr, ?_⟩
    show t_Kicks_init K a _ [some (.ref p), some (.int t)] _
    unfold t_Kicks_init
    have g0 : Good 1 (fun _ => p) := one_good
    rw [lay_one hp]
    walk_at "r0"
    refine p_putL rfl g0 rfl T.cl_Kicks T.n_Kicks_turn (by simp) ?_
    rw [pn_Kicks_turn]
    try walk_at "r0"
    refine ⟨(by show 2 ≤ sizeLine; decide), fun p1 h1 => ?_⟩
    rw [lay_push g0 rfl h1]
    have g1 := push_good g0 rfl h1
    have z1 := (lay_none g0 rfl h1).2
    clear h1
    try walk_at "r0"
    refine p_putL rfl g1 rfl T.cl_Kicks T.n_Kicks_taken (by simp) ?_
    rw [pn_Kicks_taken]
    try walk_at "r0"
    refine ⟨(by show 2 ≤ sizeLine; decide), fun p2 h2 => ?_⟩
    rw [lay_push g1 rfl h2]
    have g2 := push_good g1 rfl h2
    have z2 := (lay_none g1 rfl h2).2
    clear h2
    try walk_at "r0"
    refine p_putL rfl g2 rfl T.cl_Kicks T.n_Kicks_hits (by simp) ?_
    rw [pn_Kicks_hits]
    try walk_at "r0"
    refine ⟨(by show 0 ≤ sizeLine; decide), fun p3 h3 => ?_⟩
    rw [lay_push g2 rfl h3]
    have g3 := push_good g2 rfl h3
    have z3 := (lay_none g2 rfl h3).2
    clear h3
    try walk_at "r0"
    refine ⟨(by show 0 ≤ sizeLine; decide), fun p4 h4 => ?_⟩
    rw [lay_push g3 rfl h4]
    have g4 := push_good g3 rfl h4
    have z4 := (lay_none g3 rfl h4).2
    clear h4
    try walk_at "r0"
    refine ⟨(by show 2 ≤ sizeLine; decide), fun p5 h5 => ?_⟩
    rw [lay_push g4 rfl h5]
    have g5 := push_good g4 rfl h5
    have z5 := (lay_none g4 rfl h5).2
    clear h5
    try walk_at "r0"
    refine p_putL rfl g5 rfl T.cl_Kicks T.n_Kicks_in_round (by simp) ?_
    rw [pn_Kicks_in_round]
    try walk_at "r0"
    refine k ⟨_, fun _ => dx⟩ g5 rfl fun i h1 h2 => ?_
    match i, h1, h2 with
    | 1, _, _ => exact z1
    | 2, _, _ => exact z2
    | 3, _, _ => exact z3
    | 4, _, _ => exact z4
    | 5, _, _ => exact z5
    | n + 6, _, h => exact absurd h (show ¬ n + 6 < 6 by omega)
theorem ok_Game_kick (T : Txt K mg a) : FnOk P w K mg base CX0 3 a.f_Game_kick a.d_Game_kick ["self"] (sp_Game_kick K a) := by
  refine T.F_Game_kick.ok sc_Game_kick (fun vs H Q E h => ?_) (fun cdv A outer s H vs Q E hr h => ?_)
  · obtain ⟨wd, m, H0, g, rfl, rfl, k⟩ := h
    rfl
  · obtain ⟨wd, m, H0, g, rfl, rfl, k⟩ := h
    refine ⟨_, b_Game_kick T (ok_Clock_kick T) (ok_Field_set_play T) hr, ?_⟩
    show t_Game_kick K a _ [some (.ref (wd.A 0)), none] _
    unfold t_Game_kick
    unfold kickG at k
    walk_at "rd"
    split
    · rename_i h1
      simp only [if_pos h1] at k
      exact k.here g
    · rename_i h1
      simp only [if_neg h1] at k
      refine ⟨wd, m, H0, g, rfl, rfl, ?_⟩
      walk_at "rd"
      split
      · rename_i h2
        simp only [if_pos h2] at k
        refine ⟨wd, _, H0, _, g, rfl, rfl, fun w' H' g' x e0 _ _ ek => ?_⟩
        have k := k _ _ g' x e0 ek
        walk_at "rd"
        exact k
      · rename_i h2
        simp only [if_neg h2] at k
        exact k.here g
theorem ok_Game_tick (T : Txt K mg a) : FnOk P w K mg base CX0 2 a.f_Game_tick a.d_Game_tick ["self", "seconds"] (sp_Game_tick K a) := by
  refine T.F_Game_tick.ok sc_Game_tick (fun vs H Q E h => ?_) (fun cdv A outer s H vs Q E hr h => ?_)
  · obtain ⟨wd, m, H0, sec, g, rfl, rfl, k⟩ := h
    rfl
  · obtain ⟨wd, m, H0, sec, g, rfl, rfl, k⟩ := h
    refine ⟨_, b_Game_tick T (ok_Clock_tick T) (ok_Field_is_standing T) hr, ?_⟩
    show t_Game_tick K a _ [some (.ref (wd.A 0)), some (.int sec)] _
    unfold t_Game_tick
    walk_at "rd"
    refine ⟨wd, m, H0, g, rfl, rfl, ?_⟩
    walk_at "rd"
    exact ⟨wd, m, H0, _, _, g, rfl, rfl, k⟩
theorem ok_Game_stop (T : Txt K mg a) : FnOk P w K mg base CX0 2 a.f_Game_stop a.d_Game_stop ["self", "stop"] (sp_Game_stop K a) := by
  refine T.F_Game_stop.ok sc_Game_stop (fun vs H Q E h => ?_) (fun cdv A outer s H vs Q E hr h => ?_)
  · obtain ⟨wd, m, H0, x, g, rfl, rfl, k⟩ := h
    rfl
  · obtain ⟨wd, m, H0, x, g, rfl, rfl, k⟩ := h
    refine ⟨_, b_Game_stop T (ok_Field_is_standing T) (ok_Field_set_play T) hr, ?_⟩
    show t_Game_stop K a _ [some (.ref (wd.A 0)), some (.int x)] _
    unfold t_Game_stop
    unfold stopG at k
    walk_at "rd"
    split
    · rename_i h1
      simp only [if_pos h1] at k
      exact k.here g
    rename_i h1
    simp only [if_neg h1] at k
    split
    · rename_i h2
      simp only [if_pos h2] at k
      refine ⟨wd, m, H0, g, rfl, rfl, ?_⟩
      walk_at "rd"
      split
      · rename_i h3
        simp only [if_pos h3] at k
        exact k.here g
      · rename_i h3
        simp only [if_neg h3] at k
        by_cases h4 : x = 1
        · simp only [if_pos h4] at k ⊢
          refine ⟨wd, _, H0, _, g, rfl, rfl, fun w' H' g' e e0 _ _ ek => ?_⟩
          have k := k _ _ g' e e0 ek
          walk_at "rd"
          exact k
        · simp only [if_neg h4] at k ⊢
          refine ⟨wd, _, H0, _, g, rfl, rfl, fun w' H' g' e e0 _ _ ek => ?_⟩
          have k := k _ _ g' e e0 ek
          walk_at "rd"
          exact k
    · rename_i h2
      simp only [if_neg h2] at k
      exact k.here g
theorem ok_Game_settle (T : Txt K mg a) : FnOk P w K mg base CX0 2 a.f_Game_settle a.d_Game_settle ["self"] (sp_Game_settle K a) := by
  refine T.F_Game_settle.ok sc_Game_settle (fun vs H Q E h => ?_) (fun cdv A outer s H vs Q E hr h => ?_)
  · obtain ⟨wd, m, H0, g, rfl, rfl, k⟩ := h
    rfl
  · obtain ⟨wd, m, H0, g, rfl, rfl, k⟩ := h
    refine ⟨_, b_Game_settle T (ok_won_by T) (ok_Clock_all_played T) hr, ?_⟩
    show t_Game_settle K a _ [some (.ref (wd.A 0)), none] _
    unfold t_Game_settle
    unfold settle at k
    walk_at "rd"
    refine ⟨by decide, ?_⟩
    split
    · simp_all
    rename_i h1
    simp only [if_neg h1] at k
    split
    · rename_i h2
      simp only [if_pos h2] at k
      refine ⟨wd, m, H0, g, rfl, rfl, ?_⟩
      walk_at "rd"
      split <;> simp_all
    · rename_i h2
      simp only [if_neg h2] at k
      split
      · rename_i h3
        rw [if_pos h3] at k
        refine ⟨_, rfl, ?_⟩
        walk_at "rd"
        exact k
      · rename_i h3
        rw [if_neg h3] at k
        refine ⟨_, rfl, ?_⟩
        walk_at "rd"
        exact k
theorem ok_Game_whistle (T : Txt K mg a) : FnOk P w K mg base CX0 3 a.f_Game_whistle a.d_Game_whistle ["self"] (sp_Game_whistle K a) := by
  refine T.F_Game_whistle.ok sc_Game_whistle (fun vs H Q E h => ?_) (fun cdv A outer s H vs Q E hr h => ?_)
  · obtain ⟨wd, m, H0, g, wf, rfl, rfl, k⟩ := h
    rfl
  · obtain ⟨wd, m, H0, g, wf, rfl, rfl, k⟩ := h
    refine ⟨_, b_Game_whistle T (ok_Clock_whistle T) (ok_Field_set_play T) (ok_Game_settle T) hr, ?_⟩
    show t_Game_whistle K a _ [some (.ref (wd.A 0)), none] _
    unfold t_Game_whistle
    unfold whistleG at k
    walk_at "rd"
    refine ⟨wd, m, H0, g, wf, rfl, rfl, ?_⟩
    walk_at "rd"
    split
    · rename_i h2
      simp only [if_pos h2] at k
      refine ⟨wd, _, H0, _, g, rfl, rfl, fun w' H' g' x e0 _ _ ek => ?_⟩
      have k := k _ _ g' x e0 ek
      have g := g'
      rw [← e0]
      walk_at "rd"
      refine ⟨w', _, H', g, rfl, rfl, ?_⟩
      walk_at "rd"
      exact k
    · rename_i h2
      simp only [if_neg h2] at k
      exact k.here g
theorem cardF_team {m : M} {t p c : Int} (h : (cardF m t p c).1 = 1) : ¬ 1 < t := by
  unfold cardF at h
  intro q
  rw [if_pos q] at h
  cases h
theorem ok_Game_card (T : Txt K mg a) : FnOk P w K mg base CX0 4 a.f_Game_card a.d_Game_card ["self", "team", "player", "colour"] (sp_Game_card K a) := by
  refine T.F_Game_card.ok sc_Game_card (fun vs H Q E h => ?_) (fun cdv A outer s H vs Q E hr h => ?_)
  · obtain ⟨wd, m, H0, t, p, c, g, wf, rfl, rfl, ht, hp, hc, k⟩ := h
    rfl
  · obtain ⟨wd, m, H0, t, p, c, g, wf, rfl, rfl, ht, hp, hc, k⟩ := h
    refine ⟨_, b_Game_card T (ok_Field_card T) (ok_Field_too_few T) (ok_won_by T) (ok_other T) hr, ?_⟩
    show t_Game_card K a _ [some (.ref (wd.A 0)), some (.int t), some (.int p), some (.int c), none] _
    unfold t_Game_card
    unfold cardG at k
    walk_at "rd"
    refine ⟨wd, m, H0, t, p, c, g, wf, rfl, rfl, ht, hp, hc, ?_⟩
    walk_at "rd"
    split
    · rename_i h1
      have := cardF_team h1
      rw [if_pos h1] at k
      refine ⟨wd, _, H0, t, g, cardF_wf wf, rfl, rfl, by omega, fun H1 x => ?_⟩
      walk_at "rd"
      split
      · rename_i h2
        rw [if_pos h2] at k
        refine ⟨t, rfl, ?_⟩
        refine ⟨_, rfl, ?_⟩
        walk_at "rd"
        rw [h1]
        exact k wd H1 g x rfl rfl
      · rename_i h2
        rw [if_neg h2] at k
        rw [h1]
        exact k wd H1 g x rfl rfl
    · rename_i h1
      rw [if_neg h1] at k
      exact k.here g
theorem ok_Game_change (T : Txt K mg a) : FnOk P w K mg base CX0 4 a.f_Game_change a.d_Game_change ["self", "team", "leaving", "coming"] (sp_Game_change K a) := by
  refine T.F_Game_change.ok sc_Game_change (fun vs H Q E h => ?_) (fun cdv A outer s H vs Q E hr h => ?_)
  · obtain ⟨wd, m, H0, t, o, i, g, wf, rfl, rfl, ht, ho, hi, k⟩ := h
    rfl
  · obtain ⟨wd, m, H0, t, o, i, g, wf, rfl, rfl, ht, ho, hi, k⟩ := h
    refine ⟨_, b_Game_change T (ok_Field_change T) hr, ?_⟩
    show t_Game_change K a _ [some (.ref (wd.A 0)), some (.int t), some (.int o), some (.int i)] _
    unfold t_Game_change
    unfold changeG at k
    walk_at "rd"
    exact ⟨wd, m, H0, t, o, i, _, g, wf, rfl, rfl, ht, ho, hi, k⟩
theorem ok_Game_goal (T : Txt K mg a) : FnOk P w K mg base CX0 3 a.f_Game_goal a.d_Game_goal ["self", "team", "player", "own"] (sp_Game_goal K a) := by
  refine T.F_Game_goal.ok sc_Game_goal (fun vs H Q E h => ?_) (fun cdv A outer s H vs Q E hr h => ?_)
  · obtain ⟨wd, m, H0, t, o, i, g, wf, rfl, rfl, ht, ho, hi, k⟩ := h
    rfl
  · obtain ⟨wd, m, H0, t, o, i, g, wf, rfl, rfl, ht, ho, hi, k⟩ := h
    refine ⟨_, b_Game_goal T (ok_Field_goal T) hr, ?_⟩
    show t_Game_goal K a _ [some (.ref (wd.A 0)), some (.int t), some (.int o), some (.int i)] _
    unfold t_Game_goal
    walk_at "rd"
    exact ⟨wd, m, H0, t, o, i, g, wf, rfl, rfl, ht, ho, hi, k⟩
theorem ok_Game_score (T : Txt K mg a) : FnOk P w K mg base CX0 1 a.f_Game_score a.d_Game_score ["self"] (sp_Game_score K a) := by
  refine T.F_Game_score.ok sc_Game_score (fun vs H Q E h => ?_) (fun cdv A outer s H vs Q E hr h => ?_)
  · obtain ⟨wd, m, H0, g, rfl, rfl, k⟩ := h
    rfl
  · obtain ⟨wd, m, H0, g, rfl, rfl, k⟩ := h
    refine ⟨_, b_Game_score T hr, ?_⟩
    show t_Game_score K a _ [some (.ref (wd.A 0))] _
    unfold t_Game_score
    walk_at "rd"
    exact newNums g ExtN.refl (fun p h => h) rfl (by simp) k
theorem ok_Game_on (T : Txt K mg a) : FnOk P w K mg base CX0 4 a.f_Game_on a.d_Game_on ["self", "team"] (sp_Game_on K a) := by
  refine T.F_Game_on.ok sc_Game_on (fun vs H Q E h => ?_) (fun cdv A outer s H vs Q E hr h => ?_)
  · obtain ⟨wd, m, H0, t, g, wf, rfl, rfl, ht, k⟩ := h
    rfl
  · obtain ⟨wd, m, H0, t, g, wf, rfl, rfl, ht, k⟩ := h
    refine ⟨_, b_Game_on T (ok_Field_on T) hr, ?_⟩
    show t_Game_on K a _ [some (.ref (wd.A 0)), some (.int t)] _
    unfold t_Game_on
    walk_at "rd"
    exact ⟨wd, m, H0, t, g, wf, rfl, rfl, ht, k⟩
theorem ok_Game_minute (T : Txt K mg a) : FnOk P w K mg base CX0 3 a.f_Game_minute a.d_Game_minute ["self"] (sp_Game_minute K a) := by
  refine T.F_Game_minute.ok sc_Game_minute (fun vs H Q E h => ?_) (fun cdv A outer s H vs Q E hr h => ?_)
  · obtain ⟨wd, m, H0, g, wf, rfl, rfl, k⟩ := h
    rfl
  · obtain ⟨wd, m, H0, g, wf, rfl, rfl, k⟩ := h
    refine ⟨_, b_Game_minute T (ok_Clock_minute T) hr, ?_⟩
    show t_Game_minute K a _ [some (.ref (wd.A 0))] _
    unfold t_Game_minute
    walk_at "rd"
    exact ⟨wd, m, H0, g, wf, rfl, rfl, k⟩
theorem ok_Clock_init (T : Txt K mg a) : FnOk P w K mg base CX0 1 a.f_Clock_init a.d_Clock_init ["self", "half", "extra"] (sp_Clock_init K a) := by
  refine T.F_Clock_init.ok sc_Clock_init (fun vs H Q E h => ?_) (fun cdv A outer s H vs Q E hr h => ?_)
  · obtain ⟨p, dx, h, e, rfl, hp, k⟩ := h
    rfl
  · obtain ⟨p, dx, h, e, rfl, hp, k⟩ := h
    refine ⟨_, b_Clock_init T hr, ?_⟩
    show t_Clock_init K a _ [some (.ref p), some (.int h), some (.int e)] _
    unfold t_Clock_init
    unfold lensOf at k
    have g0 : Good 1 (fun _ => p) := one_good
    rw [lay_one hp]
    walk_at "r0"
    split
    · rename_i he
      rw [if_pos he] at k
      refine ⟨(by show 2 ≤ sizeLine; decide), fun l hl => ?_⟩
      have z := (lay_none g0 rfl hl).2
      rw [lay_push g0 rfl hl]
      have g := push_good g0 rfl hl
      try walk_at "r0"
      refine p_putL rfl g rfl T.cl_Clock T.n_Clock_lengths (by simp) ?_
      rw [pn_Clock_lengths]
      try walk_at "r0"
      refine p_putL rfl g rfl T.cl_Clock T.n_Clock_played (by simp) ?_
      rw [pn_Clock_played]
      try walk_at "r0"
      refine p_putL rfl g rfl T.cl_Clock T.n_Clock_running (by simp) ?_
      rw [pn_Clock_running]
      try walk_at "r0"
      refine p_putL rfl g rfl T.cl_Clock T.n_Clock_gone (by simp) ?_
      rw [pn_Clock_gone]
      try walk_at "r0"
      refine p_putL rfl g rfl T.cl_Clock T.n_Clock_stood (by simp) ?_
      rw [pn_Clock_stood]
      exact k l z
    · rename_i he
      rw [if_neg he] at k
      refine ⟨(by show 4 ≤ sizeLine; decide), fun l hl => ?_⟩
      have z := (lay_none g0 rfl hl).2
      rw [lay_push g0 rfl hl]
      have g := push_good g0 rfl hl
      try walk_at "r0"
      refine p_putL rfl g rfl T.cl_Clock T.n_Clock_lengths (by simp) ?_
      rw [pn_Clock_lengths]
      try walk_at "r0"
      refine p_putL rfl g rfl T.cl_Clock T.n_Clock_played (by simp) ?_
      rw [pn_Clock_played]
      try walk_at "r0"
      refine p_putL rfl g rfl T.cl_Clock T.n_Clock_running (by simp) ?_
      rw [pn_Clock_running]
      try walk_at "r0"
      refine p_putL rfl g rfl T.cl_Clock T.n_Clock_gone (by simp) ?_
      rw [pn_Clock_gone]
      try walk_at "r0"
      refine p_putL rfl g rfl T.cl_Clock T.n_Clock_stood (by simp) ?_
      rw [pn_Clock_stood]
      exact k l z
theorem ok_first_places (T : Txt K mg a) : FnOk P w K mg base CX0 1 a.f_first_places a.d_first_places [] (sp_first_places K a) := by
  refine T.F_first_places.ok sc_first_places (fun vs H Q E h => ?_) (fun cdv A outer s H vs Q E hr h => ?_)
  · obtain ⟨rfl, k⟩ := h
    rfl
  · obtain ⟨rfl, k⟩ := h
    refine ⟨_, b_first_places T hr, ?_⟩
    show t_first_places K a _ [none] _
    unfold t_first_places
    walk_at "r0"
    refine ⟨18, rfl, by decide, by decide, fun D hD => ?_⟩
    refine lc_range (lo := 0) (n := 18) (fun i H' => H' = upd H D (.lst ((firstPl.take i).map V.int))) rfl (fun i H' hi e => ?_) (fun H' e => ?_)
    · subst e
      show wipe ([some (.int (0 + (i : Int)))] : L2.St) [0] = wipe [none] [0] ∧ _
      refine ⟨rfl, ?_⟩
      show tYes _ _ _
      have hl : (firstPl.take i).length = i := by
        rw [List.length_take]
        show min i 18 = i
        omega
      have hx : firstPl.take (i + 1) = firstPl.take i ++ [if (i : Int) < 11 then 1 else 2] := by
        have h1 : firstPl[i]? = some (if (i : Int) < 11 then 1 else 2) := by
          unfold firstPl
          rw [List.getElem?_map, List.getElem?_range hi]
          simp only [Option.map_some]
          congr 1
          by_cases q : i < 11
          · rw [if_pos q, if_pos (by omega)]
          · rw [if_neg q, if_neg (by omega)]
        rw [List.take_add_one, h1]
        rfl
      simp only [tYes, wipe, if_true, List.set_cons_zero]
      walk_at "r0"
      simp only [Int.zero_add, upd_upd, upd_same]
      split
      · rename_i q
        refine ⟨_, rfl, ?_, ?_⟩
        · rw [List.length_map, hl]
          exact Nat.lt_of_lt_of_le hi (by decide)
        · rw [hx, if_pos q, List.map_append]
          rfl
      · rename_i q
        refine ⟨_, rfl, ?_, ?_⟩
        · rw [List.length_map, hl]
          exact Nat.lt_of_lt_of_le hi (by decide)
        · rw [hx, if_neg q, List.map_append]
          rfl
    · subst e
      have := k D hD
      rw [show firstPl.take 18 = firstPl from rfl]
      exact this
theorem ok_Field_init (T : Txt K mg a) : FnOk P w K mg base CX0 2 a.f_Field_init a.d_Field_init ["self"] (sp_Field_init K a) := by
  refine T.F_Field_init.ok sc_Field_init (fun vs H Q E h => ?_) (fun cdv A outer s H vs Q E hr h => ?_)
  · obtain ⟨p, dx, rfl, hp, k⟩ := h
    rfl
  · obtain ⟨p, dx, rfl, hp, k⟩ := h
    refine ⟨_, b_Field_init T (ok_first_places T) hr, ?_⟩
    show t_Field_init K a _ [some (.ref p)] _
    unfold t_Field_init
    have g0 : Good 1 (fun _ => p) := one_good
    rw [lay_one hp]
    walk_at "r0"
    refine ⟨rfl, fun p1 h1 => ?_⟩
    rw [lay_push g0 rfl h1]
    have g1 := push_good g0 rfl h1
    have z1 := (lay_none g0 rfl h1).2
    clear h1
    try walk_at "r0"
    refine ⟨rfl, fun p2 h2 => ?_⟩
    rw [lay_push g1 rfl h2]
    have g2 := push_good g1 rfl h2
    have z2 := (lay_none g1 rfl h2).2
    clear h2
    try walk_at "r0"
    refine ⟨(by show 2 ≤ sizeLine; decide), fun p3 h3 => ?_⟩
    rw [lay_push g2 rfl h3]
    have g3 := push_good g2 rfl h3
    have z3 := (lay_none g2 rfl h3).2
    clear h3
    try walk_at "r0"
    refine p_putL rfl g3 rfl T.cl_Field T.n_Field_places (by simp) ?_
    rw [pn_Field_places]
    try walk_at "r0"
    refine ⟨(by show 1 ≤ sizeLine; decide), fun p4 h4 => ?_⟩
    rw [lay_push g3 rfl h4]
    have g4 := push_good g3 rfl h4
    have z4 := (lay_none g3 rfl h4).2
    clear h4
    try walk_at "r0"
    refine ⟨p4, 18, _, rfl, rfl, lay_at (i := 4) g4 rfl rfl, by decide, by decide, by decide, fun p5 h5 => ?_⟩
    rw [lay_push g4 rfl h5]
    have g5 := push_good g4 rfl h5
    have z5 := (lay_none g4 rfl h5).2
    clear h5
    try walk_at "r0"
    refine ⟨(by show 1 ≤ sizeLine; decide), fun p6 h6 => ?_⟩
    rw [lay_push g5 rfl h6]
    have g6 := push_good g5 rfl h6
    have z6 := (lay_none g5 rfl h6).2
    clear h6
    try walk_at "r0"
    refine ⟨p6, 18, _, rfl, rfl, lay_at (i := 6) g6 rfl rfl, by decide, by decide, by decide, fun p7 h7 => ?_⟩
    rw [lay_push g6 rfl h7]
    have g7 := push_good g6 rfl h7
    have z7 := (lay_none g6 rfl h7).2
    clear h7
    try walk_at "r0"
    refine ⟨(by show 2 ≤ sizeLine; decide), fun p8 h8 => ?_⟩
    rw [lay_push g7 rfl h8]
    have g8 := push_good g7 rfl h8
    have z8 := (lay_none g7 rfl h8).2
    clear h8
    try walk_at "r0"
    refine p_putL rfl g8 rfl T.cl_Field T.n_Field_booked (by simp) ?_
    rw [pn_Field_booked]
    try walk_at "r0"
    refine p_putL rfl g8 rfl T.cl_Field T.n_Field_play (by simp) ?_
    rw [pn_Field_play]
    try walk_at "r0"
    refine ⟨(by show 2 ≤ sizeLine; decide), fun p9 h9 => ?_⟩
    rw [lay_push g8 rfl h9]
    have g9 := push_good g8 rfl h9
    have z9 := (lay_none g8 rfl h9).2
    clear h9
    try walk_at "r0"
    refine p_putL rfl g9 rfl T.cl_Field T.n_Field_changes (by simp) ?_
    rw [pn_Field_changes]
    try walk_at "r0"
    refine ⟨(by show 2 ≤ sizeLine; decide), fun p10 h10 => ?_⟩
    rw [lay_push g9 rfl h10]
    have g10 := push_good g9 rfl h10
    have z10 := (lay_none g9 rfl h10).2
    clear h10
    try walk_at "r0"
    refine p_putL rfl g10 rfl T.cl_Field T.n_Field_windows (by simp) ?_
    rw [pn_Field_windows]
    try walk_at "r0"
    refine ⟨(by show 2 ≤ sizeLine; decide), fun p11 h11 => ?_⟩
    rw [lay_push g10 rfl h11]
    have g11 := push_good g10 rfl h11
    have z11 := (lay_none g10 rfl h11).2
    clear h11
    try walk_at "r0"
    refine p_putL rfl g11 rfl T.cl_Field T.n_Field_in_window (by simp) ?_
    rw [pn_Field_in_window]
    try walk_at "r0"
    refine ⟨(by show 2 ≤ sizeLine; decide), fun p12 h12 => ?_⟩
    rw [lay_push g11 rfl h12]
    have g12 := push_good g11 rfl h12
    have z12 := (lay_none g11 rfl h12).2
    clear h12
    try walk_at "r0"
    refine p_putL rfl g12 rfl T.cl_Field T.n_Field_scored (by simp) ?_
    rw [pn_Field_scored]
    try walk_at "r0"
    refine k _ g12 rfl fun i h1 h2 => ?_
    match i, h1, h2 with
    | 1, _, _ => exact z1
    | 2, _, _ => exact z2
    | 3, _, _ => exact z3
    | 4, _, _ => exact z4
    | 5, _, _ => exact z5
    | 6, _, _ => exact z6
    | 7, _, _ => exact z7
    | 8, _, _ => exact z8
    | 9, _, _ => exact z9
    | 10, _, _ => exact z10
    | 11, _, _ => exact z11
    | 12, _, _ => exact z12
    | n + 13, _, h => omega
theorem ok_Game_init (T : Txt K mg a) : FnOk P w K mg base CX0 4 a.f_Game_init a.d_Game_init ["self", "half", "extra"] (sp_Game_init K a) := by
  refine T.F_Game_init.ok sc_Game_init (fun vs H Q E h => ?_) (fun cdv A outer s H vs Q E hr h => ?_)
  · obtain ⟨p, dx, hf, ex, rfl, hp, k⟩ := h
    rfl
  · obtain ⟨p, dx, hf, ex, rfl, hp, k⟩ := h
    refine ⟨_, b_Game_init T (ok_Clock_init T) (ok_Field_init T) hr, ?_⟩
    show t_Game_init K a _ [some (.ref p), some (.int hf), some (.int ex)] _
    unfold t_Game_init
    have g0 : Good 1 (fun _ => p) := one_good
    rw [lay_one hp]
    walk_at "r0"
    intro c dc hc hdc nc
    obtain ⟨g2, e2, zc, zdc⟩ := lay_make (o := HO.ins a.c_Clock dc []) g0 rfl hc hdc nc
    rw [e2]
    refine ⟨c, dc, hf, ex, rfl, lay_at (i := 2) g2 rfl rfl, fun q hq => ⟨rfl, ?_⟩⟩
    have zq := (lay_none g2 rfl hq).2
    rw [lay_push g2 rfl hq]
    have g3 := push_good g2 rfl hq
    have e3 : ∀ o, upd (lay (ext (ext (ext (fun _ => p) 1 dc) 2 c) 3 q) ([HO.ins a.c_Game dx []] ++ [.own c, HO.ins a.c_Clock dc []] ++ [HO.lst ((lensOf hf ex).map V.int)]) 0 H) c o = lay (ext (ext (ext (fun _ => p) 1 dc) 2 c) 3 q) [HO.ins a.c_Game dx [], .own c, o, HO.lst ((lensOf hf ex).map V.int)] 0 H := fun o => lay_set (i := 2) g3 rfl (by decide)
    rw [e3]
    refine p_putL rfl g3 rfl T.cl_Game T.n_Game_clock (by simp) ?_
    rw [pn_Game_clock]
    walk_at "r0"
    intro f df hfr hdf nf
    obtain ⟨g5, e5, zf, zdf⟩ := lay_make (o := HO.ins a.c_Field df []) g3 rfl hfr hdf nf
    rw [e5]
    refine ⟨f, df, rfl, lay_at (i := 5) g5 rfl rfl, fun B gB eB hB => ⟨rfl, ?_⟩⟩
    have oP : Out 13 B p := out_of (by rw [eB]; exact fun e => absurd (g5 0 5 (by decide) (by decide) e) (by decide)) hB (lay_at (i := 0) g5 rfl rfl)
    have oC : Out 13 B c := out_of (by rw [eB]; exact fun e => absurd (g5 2 5 (by decide) (by decide) e) (by decide)) hB (lay_at (i := 2) g5 rfl rfl)
    have oq : Out 13 B q := out_of (by rw [eB]; exact fun e => absurd (g5 3 5 (by decide) (by decide) e) (by decide)) hB (lay_at (i := 3) g5 rfl rfl)
    have zB : ∀ i, i < 13 → H (B i) = none := fun i hi => by
      by_cases q : i = 0
      · subst q; rw [eB]; exact zf
      · exact (lay_none g5 rfl (hB i (by omega) hi)).2
    refine p_putI gB rfl oP rfl g5 rfl T.cl_Game T.n_Game_field (by simp) ?_
    rw [pn_Game_field]
    try walk_at "r0"
    refine p_putI gB rfl oP rfl g5 rfl T.cl_Game T.n_Game_at_kicks (by simp) ?_
    rw [pn_Game_at_kicks]
    try walk_at "r0"
    refine p_putI gB rfl oP rfl g5 rfl T.cl_Game T.n_Game_kicks (by simp) ?_
    rw [pn_Game_kicks]
    try walk_at "r0"
    refine p_putI gB rfl oP rfl g5 rfl T.cl_Game T.n_Game_winner (by simp) ?_
    rw [pn_Game_winner]
    try walk_at "r0"
    have npc : p ≠ c := fun e => absurd (g5 0 2 (by decide) (by decide) e) (by decide)
    have npq : p ≠ q := fun e => absurd (g5 0 3 (by decide) (by decide) e) (by decide)
    have ncq : c ≠ q := fun e => absurd (g5 2 3 (by decide) (by decide) e) (by decide)
    have nd : (p :: c :: ([0, 3, 1, 2, 8, 5, 7, 9, 10, 11, 12].map B ++ [q])).Nodup := by
      have n1 : ([0, 3, 1, 2, 8, 5, 7, 9, 10, 11, 12].map B).Nodup := map_nodup gB (by decide) (by decide)
      have n2 : ([0, 3, 1, 2, 8, 5, 7, 9, 10, 11, 12].map B ++ [q]).Nodup := nd_snoc n1 (out_map oq (by decide))
      refine List.nodup_cons.mpr ⟨fun h => ?_, List.nodup_cons.mpr ⟨fun h => ?_, n2⟩⟩
      · rcases List.mem_cons.mp h with h | h
        · exact npc h
        · rcases List.mem_append.mp h with h | h
          · exact out_map oP (by decide) h
          · exact npq (List.mem_singleton.mp h)
      · rcases List.mem_append.mp h with h | h
        · exact out_map oC (by decide) h
        · exact ncq (List.mem_singleton.mp h)
    have hz : ∀ x ∈ (p :: c :: ([0, 3, 1, 2, 8, 5, 7, 9, 10, 11, 12].map B ++ [q])), x = p ∨ H x = none := fun x h => by
      rcases List.mem_cons.mp h with h | h
      · exact .inl h
      · rcases List.mem_cons.mp h with h | h
        · rw [h]; exact .inr zc
        · rcases List.mem_append.mp h with h | h
          · obtain ⟨j, hj, e⟩ := List.mem_map.mp h
            rw [← e]
            exact .inr (zB j ((by decide : ∀ j ∈ [0, 3, 1, 2, 8, 5, 7, 9, 10, 11, 12], j < 13) j hj))
          · rw [List.mem_singleton.mp h]
            exact .inr zq
    generalize hF : lay B (fieldCs a df B) 0 _ = F
    have atB : ∀ {i o}, (fieldCs a df B)[i]? = some o → F (B i) = some o := fun h => by
      rw [← hF]
      exact lay_at gB rfl h
    have atP : F p = some (.ins a.c_Game dx [("clock", .ref c), ("field", .ref f), ("at_kicks", .bl false), ("kicks", .non), ("winner", .int 0)]) := (by rw [← hF, lay_out (cs := fieldCs a df B) rfl oP]; exact lay_at (i := 0) g5 rfl rfl)
    have atC : F c = some (.ins a.c_Clock dc (clockFs q 0 false 0 0)) := (by rw [← hF, lay_out (cs := fieldCs a df B) rfl oC]; exact lay_at (i := 2) g5 rfl rfl)
    have atQ : F q = some (.lst ((lensOf hf ex).map V.int)) := (by rw [← hF, lay_out (cs := fieldCs a df B) rfl oq]; exact lay_at (i := 3) g5 rfl rfl)
    have key := k ⟨fun i => (p :: c :: ([0, 3, 1, 2, 8, 5, 7, 9, 10, 11, 12].map B ++ [q])).getD i 0, fun i => [dx, dc, df].getD i 0, .non⟩ F (list_good nd rfl) rfl rfl fun b o hb ne => ⟨by
      have o1 : Out 13 B b := fun i hi e => (by have := zB i hi; rw [← e, hb] at this; cases this)
      rw [← hF, lay_out (cs := fieldCs a df B) rfl o1]
      refine (lay_out (n := 6) rfl fun i hi => ?_).trans hb
      match i, hi with
      | 0, _ => exact ne
      | 1, _ => exact ne_of_none hb zdc
      | 2, _ => exact ne_of_none hb zc
      | 3, _ => exact ne_of_none hb zq
      | 4, _ => exact ne_of_none hb zdf
      | 5, _ => exact ne_of_none hb zf, out_list rfl hz hb ne⟩
    have e : F = put a ⟨fun i => (p :: c :: ([0, 3, 1, 2, 8, 5, 7, 9, 10, 11, 12].map B ++ [q])).getD i 0, fun i => [dx, dc, df].getD i 0, .non⟩ (M0 hf ex) F := lay_self (list_good nd rfl) rfl fun i hi => by
      match i, hi with
      | 0, _ => exact atP.trans (by rw [← eB]; rfl)
      | 1, _ => exact atC
      | 2, _ => exact atB (i := 0) rfl
      | 3, _ => exact atB (i := 3) rfl
      | 4, _ => exact atB (i := 1) rfl
      | 5, _ => exact atB (i := 2) rfl
      | 6, _ => exact atB (i := 8) rfl
      | 7, _ => exact atB (i := 5) rfl
      | 8, _ => exact atB (i := 7) rfl
      | 9, _ => exact atB (i := 9) rfl
      | 10, _ => exact atB (i := 10) rfl
      | 11, _ => exact atB (i := 11) rfl
      | 12, _ => exact atB (i := 12) rfl
      | 13, _ => exact atQ
    rw [← e] at key
    exact key
theorem GIs.used {U : Addr → Prop} {g b : Addr} {m : M} {k : Option KM} {H : Hp} (h : GIs a U g m k H) (hb : U b) : H b ≠ none := by
  obtain ⟨wd, H0, _, _, rfl, hU, _⟩ := h
  rw [put_out (hU b hb).1]
  exact (hU b hb).2
theorem Keep.refl {U : Addr → Prop} {H : Hp} : Keep U H H := fun _ _ _ h => h
theorem Keep.trans {U : Addr → Prop} {H H' H'' : Hp} (x : Keep U H H') (y : Keep U H' H'') : Keep U H H'' := fun b o u h => y b o u (x b o u h)
theorem Keep.alloc {U : Addr → Prop} {H : Hp} {p : Addr} {o : HO} (h : H p = none) : Keep U H (upd H p o) := fun b q _ hb => by rw [upd_ne (ne_of_none hb h)]; exact hb
theorem kback {U : Addr → Prop} {wd : Wd} {wk wk' : KW} {m : M} {q' : KM} {H1 H' : Hp} (gd : Good NC wd.A) (oK : ∀ i, i < NK → Out NC wd.A (wk.A i)) (x : KExt wk (put a wd m H1) wk' H')
    (hU : ∀ b, U b → Out NC wd.A b ∧ H1 b ≠ none) (uK : ∀ b, U b → Out NK wk.A b) :
    kput a wk' q' H' = put a wd m (kput a wk' q' H') ∧ (∀ b, U b → Out NC wd.A b ∧ kput a wk' q' H' b ≠ none) ∧ (∀ i, i < NK → Out NC wd.A (wk'.A i)) ∧ (∀ b, U b → Out NK wk'.A b) ∧ Keep U (put a wd m H1) (kput a wk' q' H') := by
  have c : ∀ i, i < NC → H' (wd.A i) = (cells a wd m)[i]? ∧ Out NK wk'.A (wd.A i) := fun i hi => by
    have e : (cells a wd m)[i]? = some (cells a wd m)[i] := List.getElem?_eq_getElem hi
    rw [e]
    exact x _ _ ((put_cell gd hi).trans e) fun j hj z => oK j hj i hi z.symm
  have u : ∀ b o, U b → put a wd m H1 b = some o → H' b = some o ∧ Out NK wk'.A b := fun b o hb h => x b o h (uK b hb)
  have ex : ∀ b, U b → ∃ o, put a wd m H1 b = some o := fun b hb => by
    obtain ⟨h1, h2⟩ := hU b hb
    rw [put_out h1]
    cases q : H1 b with
    | none => exact absurd q h2
    | some o => exact ⟨o, rfl⟩
  refine ⟨put_self gd fun i hi => by rw [kput_out (c i hi).2]; exact (c i hi).1, fun b hb => ?_, fun i hi j hj z => (c j hj).2 i hi z.symm, fun b hb => ?_, fun b o hb h => ?_⟩
  · obtain ⟨o, ho⟩ := ex b hb
    refine ⟨(hU b hb).1, ?_⟩
    rw [kput_out (u b o hb ho).2, (u b o hb ho).1]
    simp
  · obtain ⟨o, ho⟩ := ex b hb
    exact (u b o hb ho).2
  · rw [kput_out (u b o hb h).2]
    exact (u b o hb h).1
theorem ok_Game_first (T : Txt K mg a) : FnOk P w K mg base CX0 3 a.f_Game_first a.d_Game_first ["self", "team"] (sp_Game_first K a) := by
  refine T.F_Game_first.ok sc_Game_first (fun vs H Q E h => ?_) (fun cdv A outer s H vs Q E hr h => ?_)
  · obtain ⟨U, g, m, k, t, G, rfl, ht, kk⟩ := h
    rfl
  · obtain ⟨U, g, m, k, t, ⟨wd, H0, rfl, gd, rfl, hU, hK⟩, rfl, ht, kk⟩ := h
    refine ⟨_, b_Game_first T (ok_Kicks_init T) hr, ?_⟩
    show t_Game_first K a _ [some (.ref (wd.A 0)), some (.int t)] _
    unfold t_Game_first
    unfold firstG at kk
    have g := gd
    walk_at "rd"
    split
    · rename_i h1
      simp only [if_pos h1] at kk
      exact kk _ ⟨wd, H0, rfl, gd, rfl, hU, hK⟩ Keep.refl
    rename_i h1
    simp only [if_neg h1] at kk
    split
    · rename_i h2
      simp only [if_pos h2] at kk
      cases k with
      | some q =>
        have hK' := hK
        obtain ⟨wk, e1, _⟩ := hK'
        rw [if_neg (show ¬ wd.kv = V.non by rw [e1]; intro z; cases z)]
        exact kk _ ⟨wd, H0, rfl, gd, rfl, hU, hK⟩ Keep.refl
      | none =>
        have e1 : wd.kv = V.non := hK
        rw [if_pos e1]
        intro x dx hx hdx nx
        obtain ⟨ox, zx⟩ := put_none gd hx
        obtain ⟨od, zd⟩ := put_none gd hdx
        rw [put_upd gd od, put_upd gd ox]
        generalize hH1 : upd (upd H0 dx (.own x)) x (.ins a.c_Kicks dx []) = H1
        refine ⟨x, dx, t, rfl, (by rw [put_out ox, ← hH1]; exact upd_same), fun wk gk e0 hz => ⟨rfl, ?_⟩⟩
        have oK : ∀ i, i < NK → Out NC wd.A (wk.A i) := fun i hi => by
          by_cases q : i = 0
          · subst q; rw [e0]; exact ox
          · exact (put_none gd (hz i (by omega) hi)).1
        have hb1 : ∀ b, H0 b ≠ none → H1 b = H0 b := fun b hb => by
          rw [← hH1, upd_ne (fun z => hb (by rw [z]; exact zx)), upd_ne (fun z => hb (by rw [z]; exact zd))]
        have oU : ∀ b, U b → Out NK wk.A b := fun b hb i hi z => by
          have hb0 := (hU b hb).2
          by_cases q : i = 0
          · subst q; exact hb0 (by rw [z, e0]; exact zx)
          · have := (put_none gd (hz i (by omega) hi)).2
            rw [← z, hb1 b hb0] at this
            exact hb0 this
        have eF : kput a wk (KM0 t) (put a wd m H1) = put a wd m (kput a wk (KM0 t) (put a wd m H1)) := put_self gd fun i hi => by
          rw [kput_out fun j hj z => oK j hj i hi z.symm]
          exact put_cell gd hi
        have cK : ∀ i, i < NK → kput a wk (KM0 t) (put a wd m H1) (wk.A i) = (kcells a wk (KM0 t))[i]? := fun i hi => kput_cell gk hi
        have fb : ∀ b, U b → kput a wk (KM0 t) (put a wd m H1) b = H0 b := fun b hb => by
          rw [kput_out (oU b hb), put_out (hU b hb).1, hb1 b (hU b hb).2]
        generalize kput a wk (KM0 t) (put a wd m H1) = F at eF cK fb ⊢
        rw [eF]
        try walk_at "r0"
        show gPut K "kicks" (.ref (wd.A 0)) (.ref x) (put a wd m F) _
        rw [wr_Game_kicks T gd]
        refine kk _ ⟨{ wd with kv := .ref x }, F, rfl, gd, rfl, fun b hb => ⟨(hU b hb).1, by rw [fb b hb]; exact (hU b hb).2⟩, ⟨wk, by rw [e0], gk, oK, cK, oU⟩⟩ fun b o hb h => ?_
        rw [put_out (hU b hb).1] at h
        rw [put_out (w := { wd with kv := .ref x }) (hU b hb).1, fb b hb]
        exact h
    · rename_i h2
      simp only [if_neg h2] at kk
      exact kk _ ⟨wd, H0, rfl, gd, rfl, hU, hK⟩ Keep.refl
/-- the kicks' own readings, through the match -/
theorem k_turn {wd : Wd} {wk : KW} {m : M} {q : KM} {H0 : Hp} {Q : VK} (T : Txt K mg a) (oK : ∀ i, i < NK → Out NC wd.A (wk.A i)) (cK : ∀ i, i < NK → H0 (wk.A i) = (kcells a wk q)[i]?) :
    gFld K "turn" (.ref (wk.A 0)) (put a wd m H0) Q = Q (.int q.turn) (put a wd m H0) := g_fld (by rw [put_out (oK 0 (by decide))]; exact cK 0 (by decide)) T.cl_Kicks T.n_Kicks_turn lk_hit
theorem k_meth {wd : Wd} {wk : KW} {m : M} {q : KM} {H0 : Hp} {f : Str} {P : Prop} (oK : ∀ i, i < NK → Out NC wd.A (wk.A i)) (cK : ∀ i, i < NK → H0 (wk.A i) = (kcells a wk q)[i]?)
    (h1 : ¬ f = "turn") (h2 : ¬ f = "taken") (h3 : ¬ f = "hits") (h4 : ¬ f = "in_round") :
    gMeth a.c_Kicks f (.ref (wk.A 0)) (put a wd m H0) P = P := g_meth (by rw [put_out (oK 0 (by decide))]; exact cK 0 (by decide)) ((lk_miss h1).trans ((lk_miss h2).trans ((lk_miss h3).trans ((lk_miss h4).trans lk_nil))))
theorem k_lay {wd : Wd} {wk : KW} {m : M} {q : KM} {H0 : Hp} (gk : Good NK wk.A) (oK : ∀ i, i < NK → Out NC wd.A (wk.A i)) (cK : ∀ i, i < NK → H0 (wk.A i) = (kcells a wk q)[i]?) :
    put a wd m H0 = kput a wk q (put a wd m H0) := kput_self gk fun i hi => by rw [put_out (oK i hi)]; exact cK i hi
theorem k_free {wk : KW} {q : KM} {H0 : Hp} {l : Addr} (cK : ∀ i, i < NK → H0 (wk.A i) = (kcells a wk q)[i]?) (h : H0 l = none) : Out NK wk.A l := fun i hi z => by
  have e : (kcells a wk q)[i]? = some (kcells a wk q)[i] := List.getElem?_eq_getElem hi
  have := cK i hi
  rw [← z, h, e] at this
  cases this
theorem k_more {wk : KW} {q : KM} {H0 : Hp} {l : Addr} {o : HO} (cK : ∀ i, i < NK → H0 (wk.A i) = (kcells a wk q)[i]?) (h : H0 l = none) : ∀ i, i < NK → upd H0 l o (wk.A i) = (kcells a wk q)[i]? := fun i hi => by
  rw [upd_ne fun z => k_free cK h i hi z.symm]
  exact cK i hi
theorem u_more {wd : Wd} {U : Addr → Prop} {H0 : Hp} {l : Addr} {o : HO} (hU : ∀ b, U b → Out NC wd.A b ∧ H0 b ≠ none) : ∀ b, U b → Out NC wd.A b ∧ upd H0 l o b ≠ none := fun b hb => by
  refine ⟨(hU b hb).1, ?_⟩
  by_cases z : b = l
  · subst z; rw [upd_same]; simp
  · rw [upd_ne z]; exact (hU b hb).2
theorem ok_Game_shoot_refusal (T : Txt K mg a) : FnOk P w K mg base CX0 3 a.f_Game_shoot_refusal a.d_Game_shoot_refusal ["self", "team", "player", "scored"] (sp_Game_shoot_refusal K a) := by
  refine T.F_Game_shoot_refusal.ok sc_Game_shoot_refusal (fun vs H Q E h => ?_) (fun cdv A outer s H vs Q E hr h => ?_)
  · obtain ⟨U, g, m, k, t, p, x, G, wf, wo, rfl, ht, hp, hs, kk⟩ := h
    rfl
  · obtain ⟨U, g, m, k, t, p, x, ⟨wd, H0, rfl, gd, rfl, hU, hK⟩, wf, wo, rfl, ht, hp, hs, kk⟩ := h
    refine ⟨_, b_Game_shoot_refusal T (ok_Field_is_on T) (ok_Kicks_must_wait T) (ok_Field_players_on T) (ok_Kicks_all_taken T) hr, ?_⟩
    show t_Game_shoot_refusal K a _ [some (.ref (wd.A 0)), some (.int t), some (.int p), some (.int x)] _
    unfold t_Game_shoot_refusal
    unfold shootR at kk
    have g := gd
    walk_at "rd"
    by_cases h1 : 1 < t
    · simp only [if_pos h1] at kk ⊢
      exact kk _ ⟨wd, H0, rfl, gd, rfl, hU, hK⟩ Keep.refl
    by_cases h2 : 18 ≤ p
    · simp only [if_neg h1, if_pos h2] at kk ⊢
      exact kk _ ⟨wd, H0, rfl, gd, rfl, hU, hK⟩ Keep.refl
    by_cases h3 : 1 < x
    · simp only [if_neg h1, if_neg h2, if_pos h3] at kk ⊢
      exact kk _ ⟨wd, H0, rfl, gd, rfl, hU, hK⟩ Keep.refl
    simp only [if_neg h1, if_neg h2, if_neg h3] at kk ⊢
    have ht' : t = 0 ∨ t = 1 := by omega
    cases k with
    | none =>
      have e1 : wd.kv = V.non := hK
      rw [if_pos e1]
      exact kk _ ⟨wd, H0, rfl, gd, rfl, hU, hK⟩ Keep.refl
    | some q =>
      have wq := wo q rfl
      have hK' := hK
      obtain ⟨wk, e1, gk, oK, cK, uK⟩ := hK'
      rw [if_neg (show ¬ wd.kv = V.non by rw [e1]; intro z; cases z)]
      simp only [e1, k_turn T oK cK]
      walk_at "rd"
      simp only at kk
      split
      · rename_i h4
        rw [if_pos h4] at kk
        refine ⟨wd, m, H0, t, p, g, wf, rfl, rfl, ht', hp, by omega, ?_⟩
        walk_at "rd"
        split
        · rename_i h5
          rw [if_pos h5] at kk
          simp only [e1]
          rw [k_meth oK cK (by decide +kernel) (by decide +kernel) (by decide +kernel) (by decide +kernel)]
          try walk_at "rd"
          refine ⟨wd, m, H0, t, g, wf, rfl, rfl, ht', fun l hl ol => ?_⟩
          try walk_at "rd"
          have cK1 := k_more (o := .lst ((pon m t).map V.int)) cK hl
          have hU1 := u_more (l := l) (o := .lst ((pon m t).map V.int)) hU
          have hl1 : put a wd m (upd H0 l (.lst ((pon m t).map V.int))) l = some (.lst ((pon m t).map V.int)) := by rw [put_out ol]; exact upd_same
          refine ⟨wk, q, _, p, l, pon m t, gk, wq.t, k_lay gk oK cK1, rfl, k_free cK hl, hl1, ponN_len, fun H' x1 => ?_⟩
          obtain ⟨eG, hU2, oK2, uK2, kp⟩ := kback (q' := q) gd oK x1 hU1 uK
          have cK2 : ∀ i, i < NK → kput a wk q H' (wk.A i) = (kcells a wk q)[i]? := fun i hi => kput_cell gk hi
          have kp0 : Keep U (put a wd m H0) (kput a wk q H') := Keep.trans (fun b o hb h => by
            rw [put_out (hU b hb).1] at h
            rw [put_out (hU b hb).1, upd_ne (ne_of_none h hl)]
            exact h) kp
          generalize kput a wk q H' = G at eG hU2 kp kp0 cK2 ⊢
          have kk := kk G ⟨wd, G, rfl, gd, eG, hU2, ⟨wk, e1, gk, oK2, cK2, uK2⟩⟩ kp0
          rw [eG] at kk ⊢
          walk_at "rd"
          split
          · rename_i h6
            rw [if_pos h6] at kk
            exact kk
          · rename_i h6
            rw [if_neg h6] at kk
            simp only [e1]
            rw [k_meth oK2 cK2 (by decide +kernel) (by decide +kernel) (by decide +kernel) (by decide +kernel)]
            refine ⟨wk, q, _, gk, k_lay gk oK2 cK2, rfl, ?_⟩
            rw [← k_lay gk oK2 cK2]
            walk_at "rd"
            split
            · rename_i h7
              rw [if_pos h7] at kk
              exact kk
            · rename_i h7
              rw [if_neg h7] at kk
              exact kk
        · rename_i h5
          rw [if_neg h5] at kk
          exact kk _ ⟨wd, H0, rfl, gd, rfl, hU, hK⟩ Keep.refl
      · rename_i h4
        rw [if_neg h4] at kk
        exact kk _ ⟨wd, H0, rfl, gd, rfl, hU, hK⟩ Keep.refl
theorem ok_Game_shoot (T : Txt K mg a) : FnOk P w K mg base CX0 5 a.f_Game_shoot a.d_Game_shoot ["self", "team", "player", "scored"] (sp_Game_shoot K a) := by
  refine T.F_Game_shoot.ok sc_Game_shoot (fun vs H Q E h => ?_) (fun cdv A outer s H vs Q E hr h => ?_)
  · obtain ⟨U, g, m, k, t, p, x, G, wf, wo, rfl, ht, hp, hs, kk⟩ := h
    rfl
  · obtain ⟨U, g0, m, k, t, p, x, G, wf, wo, rfl, ht, hp, hs, kk⟩ := h
    refine ⟨_, b_Game_shoot T (ok_Game_shoot_refusal T) (ok_Kicks_take T) (ok_Field_players_on T) hr, ?_⟩
    show t_Game_shoot K a _ [some (.ref g0), some (.int t), some (.int p), some (.int x), none] _
    unfold t_Game_shoot
    unfold shootG at kk
    have G0 := G
    obtain ⟨wd, H0, rfl, g, rfl, _, _⟩ := G0
    walk_at "rd"
    refine ⟨U, _, m, k, t, p, x, G, wf, wo, rfl, ht, hp, hs, fun H1 G1 K1 => ?_⟩
    walk_at "rd"
    split
    · rename_i h1
      rw [if_pos h1] at kk
      exact kk _ G1 K1
    · rename_i h1
      rw [if_neg h1] at kk
      have hb : ¬ 1 < t := fun q => h1 (by unfold shootR; rw [if_pos q]; decide)
      have ht' : t = 0 ∨ t = 1 := by omega
      have hb2 : ¬ 18 ≤ p := fun q => h1 (by unfold shootR; rw [if_neg hb, if_pos q]; decide)
      have hb3 : ¬ 1 < x := fun q => h1 (by unfold shootR; rw [if_neg hb, if_neg hb2, if_pos q]; decide)
      cases k with
      | none => exact absurd (show shootR m none t p x < 0 by unfold shootR; rw [if_neg hb, if_neg hb2, if_neg hb3]; show (-11 : Int) < 0; decide) h1
      | some q =>
        have wq := wo q rfl
        obtain ⟨w1, H2, e0, gd, rfl, hU, wk, e1, gk, oK, cK, uK⟩ := G1
        have g := gd
        rw [← e0] at kk ⊢
        walk_at "rd"
        simp only [e1]
        rw [k_meth oK cK (by decide +kernel) (by decide +kernel) (by decide +kernel) (by decide +kernel)]
        try walk_at "rd"
        refine ⟨w1, m, H2, t, g, wf, rfl, rfl, ht', fun l hl ol => ?_⟩
        try walk_at "rd"
        have cK1 := k_more (o := .lst ((pon m t).map V.int)) cK hl
        have hU1 := u_more (l := l) (o := .lst ((pon m t).map V.int)) hU
        have hl1 : put a w1 m (upd H2 l (.lst ((pon m t).map V.int))) l = some (.lst ((pon m t).map V.int)) := by rw [put_out ol]; exact upd_same
        refine ⟨wk, q, _, p, x, l, pon m t, gk, wq, k_lay gk oK cK1, rfl, k_free cK hl, hl1, ponN_len, fun wk' H' gk' x1 ek => ?_⟩
        simp only at kk
        obtain ⟨eG, hU2, oK2, uK2, kp⟩ := kback (q' := takeK q p x (pon m t)) gd oK x1 hU1 uK
        have cK2 : ∀ i, i < NK → kput a wk' (takeK q p x (pon m t)) H' (wk'.A i) = (kcells a wk' (takeK q p x (pon m t)))[i]? := fun i hi => kput_cell gk' hi
        have kp0 : Keep U (put a w1 m H2) (kput a wk' (takeK q p x (pon m t)) H') := Keep.trans (fun b o hb h => by
          rw [put_out (hU b hb).1] at h
          rw [put_out (hU b hb).1, upd_ne (ne_of_none h hl)]
          exact h) kp
        generalize kput a wk' (takeK q p x (pon m t)) H' = G at eG hU2 kp kp0 cK2 ⊢
        rw [eG]
        walk_at "rd"
        refine kk _ ⟨w1, G, rfl, gd, rfl, hU2, ⟨wk', by rw [ek]; exact e1, gk', oK2, cK2, uK2⟩⟩ (Keep.trans K1 (Keep.trans kp0 fun b o hb h => ?_))
        rw [put_out (hU2 b hb).1]
        exact h
theorem ok_answer_of (T : Txt K mg a) : FnOk P w K mg base CX0 6 a.f_answer_of a.d_answer_of ["game", "call", "handed"] (sp_answer_of K a) := by
  refine T.F_answer_of.ok sc_answer_of (fun vs H Q E h => ?_) (fun cdv A outer s H vs Q E hr h => ?_)
  · obtain ⟨U, g, m, k, c, h, xs, G, wf, wo, uh, hh, rfl, ok, kk⟩ := h
    rfl
  · obtain ⟨U, g0, m, k, c, h, xs, G, wf, wo, uh, hh, rfl, ok, kk⟩ := h
    refine ⟨_, b_answer_of T (ok_Game_kick T) (ok_Game_tick T) (ok_Game_stop T) (ok_Game_whistle T) (ok_Game_card T) (ok_Game_change T) (ok_Game_goal T) (ok_Game_first T) (ok_Game_shoot T) hr, ?_⟩
    show t_answer_of K a _ [some (.ref g0), some (.int c), some (.ref h)] _
    unfold t_answer_of
    unfold ansG at kk
    have G0 := G
    obtain ⟨wd, H0, rfl, g, rfl, hU, hK⟩ := G0
    have eh : ∀ {i Q}, rIxP (.ref h) (.int i) (put a wd m H0) Q = ∃ v, atI (xs.map V.int) i = some v ∧ Q v (put a wd m H0) := g_ix hh
    have aft : ∀ {Q : VK} {v : V} {m' : M}, (∀ H', GIs a U (wd.A 0) m' k H' → Keep U (put a wd m H0) H' → Q v H') → Aft a wd H0 Q v m' := fun q w' H' g' x e0 ek => by
      obtain ⟨s1, s2⟩ := GIs.step (m := m) e0 g' hU hK x ek
      exact q _ s1 s2
    obtain ⟨h0, ok⟩ := ok
    rcases ok with ⟨rfl, hl⟩ | ⟨rfl, hl⟩ | ⟨rfl, hl⟩ | ⟨rfl, hl⟩ | ⟨rfl, hl⟩ | ⟨rfl, hl⟩ | ⟨rfl, hl⟩ | ⟨rfl, hl⟩ | ⟨rfl, hl⟩
    · match xs, hl with
      | [], _ =>
        walk_at "rd"
        exact ⟨wd, m, H0, g, rfl, rfl, aft kk⟩
    · match xs, hl with
      | [x], _ =>
        walk_at "rd"
        simp only [eh]
        refine ⟨_, rfl, ?_⟩
        exact ⟨wd, m, H0, _, g, rfl, rfl, (aft kk).here g⟩
    · match xs, hl with
      | [x], _ =>
        walk_at "rd"
        simp only [eh]
        refine ⟨_, rfl, ?_⟩
        exact ⟨wd, m, H0, _, g, rfl, rfl, aft kk⟩
    · match xs, hl with
      | [], _ =>
        walk_at "rd"
        exact ⟨wd, m, H0, g, wf, rfl, rfl, aft kk⟩
    · match xs, hl with
      | [x, y, z], _ =>
        walk_at "rd"
        simp only [eh]
        refine ⟨_, rfl, _, rfl, _, rfl, ?_⟩
        exact ⟨wd, m, H0, _, _, _, g, wf, rfl, rfl, h0 _ (by simp), h0 _ (by simp), h0 _ (by simp), aft kk⟩
    · match xs, hl with
      | [x, y, z], _ =>
        walk_at "rd"
        simp only [eh]
        refine ⟨_, rfl, _, rfl, _, rfl, ?_⟩
        exact ⟨wd, m, H0, _, _, _, g, wf, rfl, rfl, h0 _ (by simp), h0 _ (by simp), h0 _ (by simp), (aft kk).here g⟩
    · match xs, hl with
      | [x, y, z], _ =>
        walk_at "rd"
        simp only [eh]
        refine ⟨_, rfl, _, rfl, _, rfl, ?_⟩
        exact ⟨wd, m, H0, _, _, _, g, wf, rfl, rfl, h0 _ (by simp), h0 _ (by simp), h0 _ (by simp), (aft kk).here g⟩
    · match xs, hl with
      | [x], _ =>
        walk_at "rd"
        simp only [eh]
        refine ⟨_, rfl, ?_⟩
        exact ⟨U, _, m, k, _, G, rfl, h0 _ (by simp), kk⟩
    · match xs, hl with
      | [x, y, z], _ =>
        walk_at "rd"
        simp only [eh]
        refine ⟨_, rfl, _, rfl, _, rfl, ?_⟩
        exact ⟨U, _, m, k, _, _, _, G, wf, wo, rfl, h0 _ (by simp), h0 _ (by simp), h0 _ (by simp), kk⟩
theorem ok_numbers_of (T : Txt K mg a) : FnOk P w K mg base CX0 7 a.f_numbers_of a.d_numbers_of ["game", "call", "handed"] (sp_numbers_of K a) := by
  refine T.F_numbers_of.ok sc_numbers_of (fun vs H Q E h => ?_) (fun cdv A outer s H vs Q E hr h => ?_)
  · obtain ⟨U, g, m, k, c, h, xs, G, wf, wo, uh, hh, rfl, ok, kk⟩ := h
    rfl
  · obtain ⟨U, g0, m, k, c, h, xs, G, wf, wo, uh, hh, rfl, ok, kk⟩ := h
    refine ⟨_, b_numbers_of T (ok_Game_score T) (ok_Game_on T) (ok_Game_minute T) (ok_answer_of T) hr, ?_⟩
    show t_numbers_of K a _ [some (.ref g0), some (.int c), some (.ref h)] _
    unfold t_numbers_of
    have G0 := G
    obtain ⟨wd, H0, rfl, g, rfl, hU, hK⟩ := G0
    have eh : ∀ {i Q}, rIxP (.ref h) (.int i) (put a wd m H0) Q = ∃ v, atI (xs.map V.int) i = some v ∧ Q v (put a wd m H0) := g_ix hh
    have new : ∀ {Q : VK} {ns : List Int}, (∀ p H', GIs a U (wd.A 0) m k H' → Keep U (put a wd m H0) H' → ¬ U p → H' p = some (.lst (ns.map V.int)) → Q (.ref p) H') → New a wd H0 Q m ns := fun q p H' x fr hp op => by
      obtain ⟨s1, s2⟩ := GIs.step (m := m) (m' := m) (k := k) rfl g hU hK x rfl
      exact q p _ s1 s2 (fun hu => (hU p hu).2 fr) (by rw [put_out op]; exact hp)
    unfold numsG at kk
    rcases ok with okA | ⟨h0, ok⟩
    · have hc : ¬ c = 10 ∧ ¬ c = 11 ∧ ¬ c = 12 ∧ ¬ c = 13 := by
        have := okA.2
        omega
      obtain ⟨c1, c2, c3, c4⟩ := hc
      simp only [if_neg c1, if_neg c2, if_neg c3, if_neg c4] at kk
      walk_at "rd"
      simp only [if_neg c1, if_neg c2, if_neg c3, if_neg c4]
      split
      · rename_i h1
        rw [if_pos h1] at kk
        refine ⟨U, _, m, k, c, h, xs, G, wf, wo, uh, hh, rfl, okA, fun H' G' K' => ?_⟩
        try walk_at "rd"
        refine ⟨(by show 1 ≤ sizeLine; decide), fun p hp => ?_⟩
        refine kk p _ ((G'.alloc hp).weaken fun b hb => .inl hb) (Keep.trans K' (Keep.alloc hp)) (fun hu => G'.used hu hp) upd_same
      · rename_i h1
        rw [if_neg h1] at kk
        exact newNums g ExtN.refl (fun p h => h) rfl (by simp) (new kk)
    · rcases ok with ⟨rfl, hl⟩ | ⟨rfl, hl⟩ | ⟨rfl, hl⟩ | ⟨rfl, hl⟩
      · match xs, hl with
        | [], _ =>
          walk_at "rd"
          exact ⟨wd, m, H0, g, rfl, rfl, new kk⟩
      · match xs, hl with
        | [x], _ =>
          walk_at "rd"
          simp only [eh]
          refine ⟨_, rfl, ?_⟩
          exact ⟨wd, m, H0, _, g, wf, rfl, rfl, h0 _ (by simp), new kk⟩
      · match xs, hl with
        | [], _ =>
          walk_at "rd"
          exact ⟨wd, m, H0, g, wf, rfl, rfl, new kk⟩
      · match xs, hl with
        | [], _ =>
          walk_at "rd"
          exact newNums g ExtN.refl (fun p h => h) rfl (by simp) (new kk)
/-- what holds between two turns -/
def LI (a : Ad) (H : Hp) (l : Addr) (ns out : List Int) (σ : L2.St) (Hc : Hp) : Prop := ∃ (k : Nat) (ra : Addr) (so ro : List Int) (s : Option (M × Option KM)) (gv : V) (c4 c5 c6 c7 : Option V),
  σ = [some (.ref l), some (.ref ra), some gv, some (.int k), c4, c5, c6, c7] ∧ k ≤ ns.length ∧ Runs s (ns.drop k) ro ∧ out = so ++ ro ∧ so.length ≤ 4 * k ∧ H ra = none ∧ Hc ra = some (.lst (so.map V.int)) ∧ Same H Hc ∧
  Live a (fun b => H b ≠ none ∨ b = ra) s gv Hc
def mu (ns : List Int) : L2.St → Hp → Nat := fun σ _ => match σ[3]? with
  | some (some (V.int k)) => ns.length - k.toNat
  | _ => 0
theorem drop_cons {ns rest : List Int} {k : Nat} {c : Int} (h : ns.drop k = c :: rest) : ns[k]? = some c ∧ k < ns.length ∧ ns.drop (k + 1) = rest := by
  have hk : k < ns.length := by
    apply Nat.lt_of_not_le
    intro q
    rw [List.drop_of_length_le q] at h
    cases h
  rw [List.drop_eq_getElem_cons hk] at h
  injection h with h1 h2
  exact ⟨by rw [List.getElem?_eq_getElem hk, h1], hk, h2⟩
theorem cut_args {ns xs rest : List Int} {k : Nat} {c : Int} (h : ns.drop k = c :: (xs ++ rest)) :
    cutV (ns.map V.int) (some ((k : Int) + 1)) (some ((k : Int) + 1 + (xs.length : Int))) = xs.map V.int ∧ ns.drop (k + 1 + xs.length) = rest ∧ k + 1 + xs.length ≤ ns.length := by
  obtain ⟨_, h1, h2⟩ := drop_cons h
  have hl : (ns.drop (k + 1)).length = xs.length + rest.length := by rw [h2, List.length_append]
  rw [List.length_drop] at hl
  refine ⟨?_, ?_, by omega⟩
  · unfold cutV
    have e1 : HT.sIx (ns.map V.int).length 0 (some ((k : Int) + 1)) = k + 1 := by
      have := HT.sIx_nat (ns.map V.int).length 0 (k + 1)
      rw [show ((k + 1 : Nat) : Int) = (k : Int) + 1 from rfl] at this
      rw [this, List.length_map]
      omega
    have e2 : HT.sIx (ns.map V.int).length (ns.map V.int).length (some ((k : Int) + 1 + (xs.length : Int))) = k + 1 + xs.length := by
      have := HT.sIx_nat (ns.map V.int).length (ns.map V.int).length (k + 1 + xs.length)
      rw [show ((k + 1 + xs.length : Nat) : Int) = (k : Int) + 1 + (xs.length : Int) from rfl] at this
      rw [this, List.length_map]
      omega
    rw [e1, e2, ← List.map_drop, h2, ← List.map_take, show k + 1 + xs.length - (k + 1) = xs.length by omega, List.take_left]
  · rw [← List.drop_drop, h2, List.drop_left]
theorem cutV_eq {xs : List V} {a b a' b' : Int} (h1 : a = a') (h2 : b = b') : cutV xs (some a) (some b) = cutV xs (some a') (some b') := by rw [h1, h2]
theorem seqL {H Hc : Hp} {l : Addr} {xs : List V} (h : SqL K H l xs) (e : Same H Hc) : SqL K Hc l xs := e.seq h
/-- the end of a turn: the numbers are written down -/
theorem tail {H H1 Hc : Hp} {l ra nb : Addr} {ns out so ro zs : List Int} {k0 k' : Nat} {s : Option (M × Option KM)} {gv gv0 : V} {c4 c5 c6 d4 d5 d6 d7 : Option V} (hra : H ra = none) (h1 : H1 ra = some (.lst (so.map V.int))) (hnb : H1 nb = some (.lst (zs.map V.int))) (hz3 : zs.length ≤ 3) (nrb : ra ≠ nb) (hs : Same H H1)
    (live : Live a (fun b => H b ≠ none ∨ b = ra) s gv H1) (hR : Runs s (ns.drop k') ro) (ho : out = so ++ ((zs.length : Nat) : Int) :: (zs ++ ro)) (hk : k0 < k') (hk' : k' ≤ ns.length) (hn : ns.length ≤ 30000) (hso : so.length ≤ 4 * k0) :
    tyV K "list" (.ref ra) H1 ∧ rLenP [.ref nb] H1 fun y H3 => rAppend (.ref ra) [y] H3 fun _ H4 => tyV K "list" (.ref ra) H4 ∧ rExtend (.ref ra) [.ref nb] H4 fun _ H5 =>
      LI a H l ns out [some (.ref l), some (.ref ra), some gv, some (.int (k' : Int)), c4, c5, c6, some (.ref nb)] H5 ∧ mu ns [some (.ref l), some (.ref ra), some gv, some (.int (k' : Int)), c4, c5, c6, some (.ref nb)] H5 < mu ns [some (.ref l), some (.ref ra), some gv0, some (.int (k0 : Int)), d4, d5, d6, d7] Hc := by
  have hz := sizeLine_eq
  refine ⟨.inl ⟨rfl, _, .of h1⟩, nb, _, rfl, hnb, ra, _, _, rfl, rfl, h1, by rw [List.length_map]; omega, .inl ⟨rfl, _, .of upd_same⟩, ?_⟩
  have e3 : upd H1 ra (.lst (so.map V.int ++ [.int ((zs.map V.int).length : Nat)])) nb = some (.lst (zs.map V.int)) := by rw [upd_ne nrb.symm]; exact hnb
  refine ⟨ra, nb, _, _, rfl, rfl, upd_same, e3, by simp only [List.length_append, List.length_map, List.length_cons, List.length_nil]; omega, ?_⟩
  rw [upd_upd]
  refine ⟨⟨k', ra, so ++ ((zs.length : Nat) : Int) :: zs, ro, s, gv, _, _, _, _, rfl, hk', hR, by rw [ho]; simp, by simp only [List.length_append, List.length_cons]; omega, hra, ?_, ?_, ?_⟩, ?_⟩
  · rw [upd_same]
    simp
  · intro b o hb
    rw [upd_ne (ne_of_none hb hra)]
    exact hs b o hb
  · exact live.write (b := ra) (.inr rfl)
  · show ns.length - (k' : Int).toNat < ns.length - (k0 : Int).toNat
    omega
/-- .. where they are a new list -/
theorem tailNew {H H1 Hc : Hp} {l ra : Addr} {ns out so ro : List Int} {k0 k' : Nat} {z : Int} {s : Option (M × Option KM)} {gv gv0 : V} {c4 c5 c6 d4 d5 d6 d7 : Option V} (hra : H ra = none) (h1 : H1 ra = some (.lst (so.map V.int))) (hs : Same H H1)
    (live : Live a (fun b => H b ≠ none ∨ b = ra) s gv H1) (hR : Runs s (ns.drop k') ro) (ho : out = so ++ 1 :: z :: ro) (hk : k0 < k') (hk' : k' ≤ ns.length) (hn : ns.length ≤ 30000) (hso : so.length ≤ 4 * k0) :
    gNew [.int z] H1 (fun x H2 => tyV K "list" (.ref ra) H2 ∧ rLenP [x] H2 fun y H3 => rAppend (.ref ra) [y] H3 fun _ H4 => tyV K "list" (.ref ra) H4 ∧ rExtend (.ref ra) [x] H4 fun _ H5 =>
      LI a H l ns out [some (.ref l), some (.ref ra), some gv, some (.int (k' : Int)), c4, c5, c6, some x] H5 ∧ mu ns [some (.ref l), some (.ref ra), some gv, some (.int (k' : Int)), c4, c5, c6, some x] H5 < mu ns [some (.ref l), some (.ref ra), some gv0, some (.int (k0 : Int)), d4, d5, d6, d7] Hc) := by
  refine ⟨(by show 1 ≤ sizeLine; decide), fun nb hnb => ?_⟩
  have nrb : ra ≠ nb := ne_of_none h1 hnb
  exact tail (zs := [z]) hra (by rw [upd_ne nrb]; exact h1) upd_same (by simp) nrb (fun b o hb => by rw [upd_ne (ne_of_none (hs b o hb) hnb)]; exact hs b o hb) ((live.alloc hnb).weaken fun b hb => .inl hb) hR ho hk hk' hn hso
theorem handed_at {c : Int} {xs : List Int} (h : okCall c xs) : atI [.int 2, .int 0, .int 1, .int 1, .int 0, .int 3, .int 3, .int 3, .int 1, .int 3, .int 0, .int 1, .int 0, .int 0] c = some (V.int (xs.length : Int)) := by
  rcases h with ⟨_, h⟩ | ⟨_, h⟩
  · rcases h with ⟨rfl, h⟩ | ⟨rfl, h⟩ | ⟨rfl, h⟩ | ⟨rfl, h⟩ | ⟨rfl, h⟩ | ⟨rfl, h⟩ | ⟨rfl, h⟩ | ⟨rfl, h⟩ | ⟨rfl, h⟩ <;> rw [h] <;> rfl
  · rcases h with ⟨rfl, h⟩ | ⟨rfl, h⟩ | ⟨rfl, h⟩ | ⟨rfl, h⟩ <;> rw [h] <;> rfl
theorem nums_len {m : M} {k : Option KM} {c : Int} {xs : List Int} : (numsG m k c xs).1.length ≤ 3 := by
  unfold numsG onF minC
  repeat' split
  all_goals simp
theorem ok_pos {c : Int} {xs : List Int} (h : okCall c xs) : ¬ c = 0 := by
  rcases h with ⟨_, h⟩ | ⟨_, h⟩ <;> omega
theorem ok_answers (T : Txt K mg a) : FnOk P w K mg base CX0 8 a.f_answers a.d_answers ["calls"] (sp_answers K a) := by
  refine T.F_answers.ok sc_answers (fun vs H Q E h => ?_) (fun cdv A outer s H vs Q E hr h => ?_)
  · obtain ⟨l, ns, out, rfl, k⟩ := h
    rfl
  · obtain ⟨l, ns, out, rfl, hl, hn, hR, k⟩ := h
    refine ⟨_, b_answers T (ok_numbers_of T) (ok_lengths_allowed T) (ok_Game_init T) hr, ?_⟩
    show t_answers K a _ [some (.ref l), none, none, none, none, none, none, none] _
    unfold t_answers
    walk_at "r0"
    refine ⟨by decide, fun ra hra => ?_⟩
    walk_at "r0"
    refine while_by (LI a H l ns out) (mu ns) ?_ ?_ ?_
    · refine ⟨0, ra, [], out, none, .non, none, none, none, none, rfl, Nat.zero_le _, hR, rfl, Nat.zero_le _, hra, upd_same, ?_, rfl⟩
      exact fun b o h => by rw [upd_ne (ne_of_none h hra)]; exact h
    · rintro σ Hc ⟨k0, ra, so, ro, s, gv, c4, c5, c6, c7, rfl, hk, hR, hout, hso, hra, har, hsame, live⟩
      have hlc := seqL hl hsame
      walk_at "r0"
      refine ⟨l, _, rfl, .inl hlc, ?_⟩
      walk_at "r0"
      rw [List.length_map]
      split
      · rename_i hlt
        have hlt' : k0 < ns.length := by omega
        obtain ⟨d, hd⟩ : ∃ d, ns.drop k0 = d := ⟨_, rfl⟩
        rw [hd] at hR
        cases hR with
        | nil =>
          have := List.drop_eq_nil_iff.mp hd
          omega
        | @start _ h e rest ro' hR' =>
          obtain ⟨h1, _, _⟩ := drop_cons hd
          obtain ⟨c1, c2, c3⟩ := cut_args (xs := [h, e]) hd
          refine ⟨l, _, k0, .int 0, rfl, rfl, hlc, atI_nat (by rw [List.getElem?_map, h1]; rfl), ?_⟩
          refine ⟨_, _, _, .int 2, rfl, rfl, T.s_HANDED _, rfl, ?_⟩
          walk_at "r0"
          refine ⟨l, _, rfl, hlc, fun hd hhd => ?_⟩
          rw [show cutV (ns.map V.int) (some ((k0 : Int) + 1)) (some ((k0 : Int) + 1 + 2)) = [.int h, .int e] from c1]
          walk_at "r0"
          have live2 := live.alloc (o := .lst [.int h, .int e]) hhd
          have e1 : ∀ {i Q}, rIxP (.ref hd) (.int i) (upd Hc hd (.lst [.int h, .int e])) Q = ∃ v, atI [.int h, .int e] i = some v ∧ Q v (upd Hc hd (.lst [.int h, .int e])) := g_ix upd_same
          simp only [e1, at2_0, at2_1, x_some]
          have nrd : ra ≠ hd := ne_of_none har hhd
          have har2 : upd Hc hd (.lst [.int h, .int e]) ra = some (.lst (so.map V.int)) := by rw [upd_ne nrd]; exact har
          have hsame2 : Same H (upd Hc hd (.lst [.int h, .int e])) := fun b o hb => by rw [upd_ne (ne_of_none (hsame b o hb) hhd)]; exact hsame b o hb
          refine ⟨h, e, rfl, ?_⟩
          walk_at "r0"
          split
          · rename_i hok
            rw [if_pos hok] at hR' hout
            simp only [e1, at2_0, at2_1, x_some]
            intro x dx hx hdx nx
            refine ⟨x, dx, h, e, rfl, upd_same, fun w' H0' g' e0 ekv fr => ⟨rfl, ?_⟩⟩
            have fr2 : ∀ b o, upd Hc hd (.lst [.int h, .int e]) b = some o → H0' b = some o ∧ Out NC w'.A b := fun b o hb =>
              fr b o (by rw [upd_ne (ne_of_none hb hx), upd_ne (ne_of_none hb hdx)]; exact hb) (ne_of_none hb hx)
            have fr3 : ∀ b o, upd Hc hd (.lst [.int h, .int e]) b = some o → put a w' (M0 h e) H0' b = some o := fun b o hb => by
              rw [put_out (fr2 b o hb).2]
              exact (fr2 b o hb).1
            have fr3' : ∀ b o, upd Hc hd (.lst [.int h, .int e]) b = some o → Out NC w'.A b := fun b o hb => (fr2 b o hb).2
            refine tailNew (k' := k0 + 1 + 2) (s := some (M0 h e, none)) hra (fr3 _ _ har2) (fun b o hb => fr3 b o (hsame2 b o hb)) ⟨w'.A 0, by rw [e0], w', H0', rfl, g', rfl, fun b hb => ?_, ekv⟩ (by rw [show k0 + 1 + 2 = k0 + 1 + [h, e].length from rfl, c2]; exact hR') hout (by omega) c3 hn hso
            rcases hb with hb | rfl
            · obtain ⟨o, ho⟩ : ∃ o, H b = some o := by
                cases q : H b with
                | none => exact absurd q hb
                | some o => exact ⟨o, rfl⟩
              exact ⟨(fr2 b o (hsame2 b o ho)).2, by rw [(fr2 b o (hsame2 b o ho)).1]; simp⟩
            · exact ⟨(fr2 _ _ har2).2, by rw [(fr2 _ _ har2).1]; simp⟩
          · rename_i hok
            rw [if_neg hok] at hR' hout
            exact tailNew (k' := k0 + 1 + 2) hra har2 hsame2 (live2.weaken fun b hb => .inl hb) (by rw [show k0 + 1 + 2 = k0 + 1 + [h, e].length from rfl, c2]; exact hR') hout (by omega) c3 hn hso
        | @call m kx c xs rest ro' wf wo ok hR' =>
          obtain ⟨h1, _, _⟩ := drop_cons hd
          obtain ⟨c1, c2, c3⟩ := cut_args hd
          refine ⟨l, _, k0, .int c, rfl, rfl, hlc, atI_nat (by rw [List.getElem?_map, h1]; rfl), ?_⟩
          refine ⟨_, _, _, .int xs.length, rfl, rfl, T.s_HANDED _, handed_at ok, ?_⟩
          walk_at "r0"
          refine ⟨l, _, rfl, hlc, fun hd hhd => ?_⟩
          rw [c1]
          walk_at "r0"
          rw [if_neg (ok_pos ok)]
          obtain ⟨g, rfl, G⟩ := live
          have har2 : upd Hc hd (.lst (xs.map V.int)) ra = some (.lst (so.map V.int)) := by rw [upd_ne (ne_of_none har hhd)]; exact har
          have hsame2 : Same H (upd Hc hd (.lst (xs.map V.int))) := fun b o hb => by rw [upd_ne (ne_of_none (hsame b o hb) hhd)]; exact hsame b o hb
          refine ⟨_, g, m, kx, c, hd, xs, G.alloc hhd, wf, wo, .inr rfl, upd_same, rfl, ok, fun p H' G' K' np hp => ?_⟩
          try walk_at "r0"
          refine tail (k' := k0 + 1 + xs.length) (s := some (numsG m kx c xs).2) hra (K' _ _ (.inl (.inr rfl)) har2) hp nums_len (fun z => np (.inl (.inr z.symm))) (fun b o hb => K' b o (.inl (.inl (by rw [hb]; simp))) (hsame2 b o hb)) ⟨g, rfl, G'.weaken fun b hb => .inl hb⟩ (by rw [c2]; exact hR') hout (by omega) c3 hn hso
      · rename_i hge
        have e : ns.drop k0 = [] := List.drop_of_length_le (by omega)
        rw [e] at hR
        cases hR
        rw [List.append_nil] at hout
        subst hout
        exact k _ _ har
    · intro σ H Q Q' hq h
      obtain ⟨v, e, v0, e0, p, ys, e1, hs, i, j, ei, ej, c, ec, q⟩ := h
      exact ⟨v, e, v0, e0, p, ys, e1, hs, i, j, ei, ej, c, ec, hq _ _ q⟩
end
end MK

/-! From the list of calls, as the specification reads it, to the program's runs. -/
namespace MK

theorem shape_zero {p : Int} {n k : Nat} (h : PyKmt4.shape p = some (n, k)) : k = 0 := by
  unfold PyKmt4.shape at h
  by_cases h0 : p = 0
  · rw [if_pos h0] at h
    exact (Prod.mk.inj (Option.some.inj h)).2.symm
  rw [if_neg h0] at h
  by_cases h1 : p = 1
  · rw [if_pos h1] at h
    exact (Prod.mk.inj (Option.some.inj h)).2.symm
  rw [if_neg h1] at h
  by_cases h2 : p = 2
  · rw [if_pos h2] at h
    exact (Prod.mk.inj (Option.some.inj h)).2.symm
  rw [if_neg h2] at h
  by_cases h3 : p = 3
  · rw [if_pos h3] at h
    exact (Prod.mk.inj (Option.some.inj h)).2.symm
  rw [if_neg h3] at h
  by_cases h4 : p = 4
  · rw [if_pos h4] at h
    exact (Prod.mk.inj (Option.some.inj h)).2.symm
  rw [if_neg h4] at h
  by_cases h5 : p = 5
  · rw [if_pos h5] at h
    exact (Prod.mk.inj (Option.some.inj h)).2.symm
  rw [if_neg h5] at h
  by_cases h6 : p = 6
  · rw [if_pos h6] at h
    exact (Prod.mk.inj (Option.some.inj h)).2.symm
  rw [if_neg h6] at h
  by_cases h7 : p = 7
  · rw [if_pos h7] at h
    exact (Prod.mk.inj (Option.some.inj h)).2.symm
  rw [if_neg h7] at h
  by_cases h8 : p = 8
  · rw [if_pos h8] at h
    exact (Prod.mk.inj (Option.some.inj h)).2.symm
  rw [if_neg h8] at h
  by_cases h9 : p = 9
  · rw [if_pos h9] at h
    exact (Prod.mk.inj (Option.some.inj h)).2.symm
  rw [if_neg h9] at h
  by_cases h10 : p = 10
  · rw [if_pos h10] at h
    exact (Prod.mk.inj (Option.some.inj h)).2.symm
  rw [if_neg h10] at h
  by_cases h11 : p = 11
  · rw [if_pos h11] at h
    exact (Prod.mk.inj (Option.some.inj h)).2.symm
  rw [if_neg h11] at h
  by_cases h12 : p = 12
  · rw [if_pos h12] at h
    exact (Prod.mk.inj (Option.some.inj h)).2.symm
  rw [if_neg h12] at h
  by_cases h13 : p = 13
  · rw [if_pos h13] at h
    exact (Prod.mk.inj (Option.some.inj h)).2.symm
  rw [if_neg h13] at h
  exact absurd h (by simp)
theorem call_one {p : Int} {r : List Int} {c : List (List Int)} {t : List Int} (h : PyFlat.call PyKmt4.shape (p :: r) = some (c, t)) :
    ∃ xs, r = xs ++ t ∧ c = [p :: xs] ∧ PyKmt4.shape p = some (xs.length, 0) := by
  rw [show PyFlat.call PyKmt4.shape (p :: r) = (match PyKmt4.shape p with
    | none => none
    | some (n, k) => if r.length < n then none else match PyFlat.rows k (r.drop n) with
      | none => none
      | some (xs, t) => some ((p :: r.take n) :: xs, t)) from rfl] at h
  cases hs : PyKmt4.shape p with
  | none => rw [hs] at h; cases h
  | some nk =>
    obtain ⟨n, k⟩ := nk
    have hk := shape_zero hs
    subst hk
    rw [hs] at h
    simp only at h
    split at h
    · cases h
    · rename_i hl
      have e : PyFlat.rows 0 (r.drop n) = some ([], r.drop n) := rfl
      rw [e] at h
      simp only [Option.some.injEq, Prod.mk.injEq] at h
      obtain ⟨rfl, rfl⟩ := h
      refine ⟨r.take n, (List.take_append_drop n r).symm, rfl, ?_⟩
      rw [List.length_take, Nat.min_eq_left (by omega)]
theorem whole_id (c : List (List Int)) : PyKmt4.whole c = c := by
  unfold PyKmt4.whole
  split <;> rfl
theorem runs_all {R : Option (M × Option KM) → Kmt4Neutral.S → Prop}
    (one : ∀ (ms : Option (M × Option KM)) (s : Kmt4Neutral.S) (p : Int) (xs : List Int), R ms s → (∀ x ∈ xs, 0 ≤ x) → PyKmt4.shape p = some (xs.length, 0) → (Kmt4Neutral.step s [p :: xs]).2 ≠ [] →
      ∃ ms', R ms' (Kmt4Neutral.step s [p :: xs]).1 ∧ ∀ rest out, Runs ms' rest out → Runs ms (p :: (xs ++ rest)) (((Kmt4Neutral.step s [p :: xs]).2.length : Int) :: ((Kmt4Neutral.step s [p :: xs]).2 ++ out))) :
    ∀ (f : Nat) (l : List Int) (cs : List (List (List Int))) (s : Kmt4Neutral.S) (ms : Option (M × Option KM)), (∀ x ∈ l, 0 ≤ x) → PyFlat.calls PyKmt4.shape f l = some cs → R ms s → Kmt4Neutral.may s cs = true →
      Runs ms l (PyFlat.told (PyFlat.played Kmt4Neutral.step s cs)) := by
  intro f
  induction f with
  | zero =>
    intro l cs s ms hl hc hR hm
    cases l with
    | nil =>
      have : cs = [] := by
        unfold PyFlat.calls at hc
        exact (Option.some.inj hc).symm
      subst this
      exact .nil
    | cons p r => unfold PyFlat.calls at hc; cases hc
  | succ f ih =>
    intro l cs s ms hl hc hR hm
    cases l with
    | nil =>
      have : cs = [] := by
        unfold PyFlat.calls at hc
        exact (Option.some.inj hc).symm
      subst this
      exact .nil
    | cons p r =>
      unfold PyFlat.calls at hc
      split at hc
      · cases hc
      · rename_i c t hcall
        split at hc
        · cases hc
        · rename_i cs' hcs
          cases hc
          obtain ⟨xs, rfl, rfl, hsh⟩ := call_one hcall
          unfold Kmt4Neutral.may at hm
          have hm2 := Bool.and_eq_true_iff.mp hm
          have hne : (Kmt4Neutral.step s [p :: xs]).2 ≠ [] := fun e => by
            have := hm2.1
            rw [e] at this
            cases this
          obtain ⟨ms', hR', h⟩ := one ms s p xs hR (fun x hx => hl x (List.mem_cons_of_mem _ (List.mem_append_left _ hx))) hsh hne
          have := ih t cs' _ ms' (fun x hx => hl x (List.mem_cons_of_mem _ (List.mem_append_right _ hx))) hcs hR' hm2.2
          have := h t _ this
          rw [show PyFlat.told (PyFlat.played Kmt4Neutral.step s ([p :: xs] :: cs')) = (((Kmt4Neutral.step s [p :: xs]).2.length : Int) :: ((Kmt4Neutral.step s [p :: xs]).2 ++ PyFlat.told (PyFlat.played Kmt4Neutral.step (Kmt4Neutral.step s [p :: xs]).1 cs'))) from rfl]
          exact this
theorem runs_asked {R : Option (M × Option KM) → Kmt4Neutral.S → Prop} (h0 : R none none)
    (one : ∀ (ms : Option (M × Option KM)) (s : Kmt4Neutral.S) (p : Int) (xs : List Int), R ms s → (∀ x ∈ xs, 0 ≤ x) → PyKmt4.shape p = some (xs.length, 0) → (Kmt4Neutral.step s [p :: xs]).2 ≠ [] →
      ∃ ms', R ms' (Kmt4Neutral.step s [p :: xs]).1 ∧ ∀ rest out, Runs ms' rest out → Runs ms (p :: (xs ++ rest)) (((Kmt4Neutral.step s [p :: xs]).2.length : Int) :: ((Kmt4Neutral.step s [p :: xs]).2 ++ out)))
    {ns : List Int} (hl : ∀ x ∈ ns, 0 ≤ x) (h : PyKmt4.answers_asked ns = true) : Runs none ns (PyKmt4.answers ns) := by
  unfold PyKmt4.answers_asked at h
  unfold PyKmt4.answers
  cases hc : PyKmt4.calls ns with
  | none => rw [hc] at h; cases h
  | some cs =>
    rw [hc] at h
    simp only at h ⊢
    have h2 := (Bool.and_eq_true_iff.mp h).2
    unfold Kmt4Neutral.asked at h2
    have hm := (Bool.and_eq_true_iff.mp h2).2
    unfold PyKmt4.calls at hc
    split at hc
    · cases hc
    · rename_i cs' hcs
      have e : cs'.map PyKmt4.whole = cs' := by
        rw [show PyKmt4.whole = id from funext whole_id, List.map_id]
      rw [e] at hc
      cases hc
      exact runs_all one _ ns cs _ none hl hcs h0 hm
end MK

/-! The mirror against the specification. -/
namespace MK

structure PlSim (ps : List Kmt1.Player) (pl : List Int) (bk : List Bool) : Prop where
  len : ps.length = 18
  lp : pl.length = 18
  lb : bk.length = 18
  at_ : ∀ k, k < 18 → pl.getD k 0 = ((ps.getD k ⟨4, 0⟩).place : Int) ∧ ((ps.getD k ⟨4, 0⟩).place ≠ 4 → (ps.getD k ⟨4, 0⟩).yellow = if bk.getD k false = true then 1 else 0)
structure TmSim (x : Kmt1.Team) (pl : List Int) (bk : List Bool) (ch wi : Int) (iw : Bool) (sc : Int) : Prop where
  ps : PlSim x.players pl bk
  ch : ch = (x.changes : Int)
  le : x.changes ≤ 5
  wi : wi = (x.windows : Int)
  iw : iw = x.had
  sc : sc = (x.score : Int)
  sl : x.score ≤ 1000000
structure Sim (m : M) (x : Kmt4.Match) : Prop where
  lens : m.lens = lensOf (x.clock.half : Int) (x.clock.extra : Int)
  played : m.played = (x.clock.played : Int)
  run : m.running = x.clock.runs
  gone : x.clock.runs = true → m.gone = (x.clock.gone : Int) ∧ m.stood = (x.clock.stood : Int) ∧ x.clock.stands = standing m ∧ x.field.mode ≤ 1 ∧ x.clock.played < Kmt2.most x.clock ∧ x.toKicks = false
  rest : x.clock.runs = false → x.field.mode = 2
  play : m.play = (x.field.mode : Int)
  most : x.clock.played ≤ Kmt2.most x.clock
  a : TmSim x.field.a m.pl0 m.bk0 m.ch0 m.wi0 m.iw0 m.sc0
  b : TmSim x.field.b m.pl1 m.bk1 m.ch1 m.wi1 m.iw1 m.sc1
  kicks : m.at_kicks = x.toKicks
  won : m.winner = (x.won : Int)
  full : x.won = 0 → Kmt4.few x 0 = false ∧ Kmt4.few x 1 = false
theorem lens_len {h e : Int} : (lensOf h e).length = if e = 0 then 2 else 4 := by
  unfold lensOf
  split <;> rfl
theorem lens_most {m : M} {x : Kmt4.Match} (S : Sim m x) : m.lens.length = Kmt2.most x.clock := by
  rw [S.lens, lens_len]
  unfold Kmt2.most
  by_cases q : x.clock.extra = 0
  · rw [if_pos q, if_pos (by omega)]
  · rw [if_neg q, if_neg (by omega)]
theorem Sim.wf {m : M} {x : Kmt4.Match} (S : Sim m x) : Wf m := ⟨S.a.ps.lp, S.b.ps.lp, S.a.ps.lb, S.b.ps.lb, by rw [S.played]; omega, fun q => by
  rw [S.run] at q
  have h1 := (S.gone q).2.2.2.2.1
  have h2 := lens_most S
  have h3 := S.played
  omega⟩

/-! ### players -/
theorem getD_range (pl : List Int) (h : pl.length = 18) : pl = (List.range 18).map fun k => pl.getD k 0 := by
  apply List.ext_getElem
  · simp [h]
  · intro i h1 h2
    simp [List.getElem?_eq_getElem h1]
theorem PlSim.count {ps : List Kmt1.Player} {pl : List Int} {bk : List Bool} (S : PlSim ps pl bk) : pl.count 1 = ((List.range 18).filter fun k => (ps.getD k ⟨4, 0⟩).place == 1).length := by
  have e := getD_range pl S.lp
  rw [e, List.count_eq_countP, List.countP_map, List.countP_eq_length_filter]
  congr 1
  apply List.filter_congr
  intro k hk
  have hk' := List.mem_range.mp hk
  rw [show ((fun x => x == (1 : Int)) ∘ fun k => pl.getD k 0) k = (pl.getD k 0 == 1) from rfl]
  rw [(S.at_ k hk').1]
  by_cases q : (ps.getD k ⟨4, 0⟩).place = 1
  · rw [q]
    rfl
  · have : ¬ ((ps.getD k ⟨4, 0⟩).place : Int) = 1 := by omega
    rw [beq_eq_false_iff_ne.mpr q, beq_eq_false_iff_ne.mpr this]
theorem PlSim.setP {ps : List Kmt1.Player} {pl : List Int} {bk : List Bool} (S : PlSim ps pl bk) {k z : Nat} {y : Nat} (hk : k < 18) (hy : z ≠ 4 → y = if bk.getD k false = true then 1 else 0) : PlSim (ps.set k ⟨z, y⟩) (pl.set k (z : Int)) bk := by
  refine ⟨by rw [List.length_set]; exact S.len, by rw [List.length_set]; exact S.lp, S.lb, fun j hj => ?_⟩
  have h1 := S.len
  have h2 := S.lp
  by_cases e : j = k
  · subst e
    have e1 : (ps.set j ⟨z, y⟩).getD j ⟨4, 0⟩ = ⟨z, y⟩ := by simp [List.getElem?_set_self (show j < ps.length by omega)]
    have e2 : (pl.set j (z : Int)).getD j 0 = (z : Int) := by simp [List.getElem?_set_self (show j < pl.length by omega)]
    rw [e1, e2]
    exact ⟨rfl, hy⟩
  · have e1 : (ps.set k ⟨z, y⟩).getD j ⟨4, 0⟩ = ps.getD j ⟨4, 0⟩ := by simp [List.getElem?_set_ne (fun q => e q.symm)]
    have e2 : (pl.set k (z : Int)).getD j 0 = pl.getD j 0 := by simp [List.getElem?_set_ne (fun q => e q.symm)]
    rw [e1, e2]
    exact S.at_ j hj
theorem PlSim.setB {ps : List Kmt1.Player} {pl : List Int} {bk : List Bool} (S : PlSim ps pl bk) {k : Nat} (hk : k < 18) : PlSim (ps.set k { ps.getD k ⟨4, 0⟩ with yellow := 1 }) pl (bk.set k true) := by
  refine ⟨by rw [List.length_set]; exact S.len, S.lp, by rw [List.length_set]; exact S.lb, fun j hj => ?_⟩
  have h1 := S.len
  have h2 := S.lb
  by_cases e : j = k
  · subst e
    have e1 : (ps.set j { ps.getD j ⟨4, 0⟩ with yellow := 1 }).getD j ⟨4, 0⟩ = { ps.getD j ⟨4, 0⟩ with yellow := 1 } := by simp [List.getElem?_set_self (show j < ps.length by omega)]
    have e2 : (bk.set j true).getD j false = true := by simp [List.getElem?_set_self (show j < bk.length by omega)]
    rw [e1, e2]
    exact ⟨(S.at_ j hj).1, fun _ => rfl⟩
  · have e1 : (ps.set k { ps.getD k ⟨4, 0⟩ with yellow := 1 }).getD j ⟨4, 0⟩ = ps.getD j ⟨4, 0⟩ := by simp [List.getElem?_set_ne (fun q => e q.symm)]
    have e2 : (bk.set k true).getD j false = bk.getD j false := by simp [List.getElem?_set_ne (fun q => e q.symm)]
    rw [e1, e2]
    exact S.at_ j hj
theorem TmSim.on {x : Kmt1.Team} {pl : List Int} {bk : List Bool} {ch wi : Int} {iw : Bool} {sc : Int} (S : TmSim x pl bk ch wi iw sc) : (Kmt1.on x).length = pl.count 1 := S.ps.count.symm
theorem pon_count {l : List Int} (h : l.length = 18) : (ponN l 18).length = l.count 1 := by
  unfold ponN
  rw [List.length_map]
  conv => rhs; rw [getD_range l h, List.count_eq_countP, List.countP_map, List.countP_eq_length_filter]
  congr 1
theorem few_cnt {m : M} {t : Int} (h : (pl m t).length = 18) : few m t = decide ((((pl m t).count 1 : Nat) : Int) < 7) := by
  unfold few pon
  rw [pon_count h]
theorem allPlayed_eq {m : M} {x : Kmt4.Match} (S : Sim m x) : allPlayed m = decide (Kmt2.most x.clock ≤ x.clock.played) := by
  unfold allPlayed
  have h1 := S.played
  have h2 := lens_most S
  have h3 := S.most
  exact decide_eq_decide.mpr (by omega)
theorem clen_eq {m : M} {x : Kmt4.Match} (S : Sim m x) (h : x.clock.played < Kmt2.most x.clock) : clen m = ((Kmt2.length x.clock x.clock.played : Nat) : Int) := by
  unfold clen Kmt2.length
  have h1 := S.played
  rw [S.lens, h1, Int.toNat_natCast]
  unfold Kmt2.most at h
  unfold lensOf
  by_cases q : x.clock.extra = 0
  · rw [if_pos q] at h
    rw [if_pos (by omega), if_pos (by omega)]
    have : x.clock.played = 0 ∨ x.clock.played = 1 := by omega
    rcases this with e | e <;> rw [e] <;> rfl
  · rw [if_neg q] at h
    rw [if_neg (by omega)]
    have : x.clock.played = 0 ∨ x.clock.played = 1 ∨ x.clock.played = 2 ∨ x.clock.played = 3 := by omega
    rcases this with e | e | e | e <;> rw [e] <;> rfl
/-! ### play -/
theorem play_a {f : Kmt1.Field} : Kmt4.play f 0 = if f.mode = 0 then f else ⟨0, Kmt1.still f.a, Kmt1.still f.b⟩ := by
  unfold Kmt4.play Kmt1.acts
  by_cases q : f.mode = 0
  · simp [q]
  · have : ¬ 0 = f.mode := fun e => q e.symm
    simp [q, this]
theorem play_r {f : Kmt1.Field} {r : Nat} (h : 0 < r) (h2 : r ≤ 2) : Kmt4.play f r = { f with mode := r } := by
  unfold Kmt4.play Kmt1.acts
  have h3 : ¬ 2 < r := by omega
  by_cases q : r = f.mode
  · subst q
    simp [h3]
  · have : ¬ r = 0 := by omega
    simp [h3, q, this]
theorem still_sim {x : Kmt1.Team} {pl : List Int} {bk : List Bool} {ch wi : Int} {iw : Bool} {sc : Int} (S : TmSim x pl bk ch wi iw sc) : TmSim (Kmt1.still x) pl bk ch wi false sc := ⟨S.ps, S.ch, S.le, S.wi, rfl, S.sc, S.sl⟩

theorem neg_lt {z : Nat} : ((z : Int) < 0) = False := by simp
theorem kick_spec {x : Kmt4.Match} (h : x.won = 0) : Kmt4.changes x .kick = if x.toKicks = true then (x, Kmt4.say (-11)) else if x.clock.runs = true then (x, Kmt4.say (-16)) else if Kmt2.most x.clock ≤ x.clock.played then (x, Kmt4.say (-11)) else
    ({ x with clock := { x.clock with runs := true, gone := 0, stood := 0, stands := false }, field := Kmt4.play x.field 0 }, Kmt4.say ((x.clock.played + 1 : Nat) : Int)) := by
  unfold Kmt4.changes Kmt4.byClock Kmt2.acts
  rw [if_neg (by simpa using h)]
  simp only [Option.map_some]
  by_cases h1 : x.toKicks = true
  · simp only [if_pos h1]
  by_cases h2 : x.clock.runs = true
  · simp only [if_neg h1, if_pos h2]
    rfl
  by_cases h3 : Kmt2.most x.clock ≤ x.clock.played
  · simp only [if_neg h1, if_neg h2, if_pos h3]
    rfl
  simp only [if_neg h1, if_neg h2, if_neg h3, Kmt2.say, neg_lt, if_false]
theorem kick_sim {m : M} {x : Kmt4.Match} (S : Sim m x) (h : x.won = 0) : (Kmt4.changes x .kick).2 = Kmt4.say (kickG m).1 ∧ Sim (kickG m).2 (Kmt4.changes x .kick).1 := by
  rw [kick_spec h]
  unfold kickG
  have hk := S.kicks
  have hr := S.run
  have hp := allPlayed_eq S
  by_cases h1 : x.toKicks = true
  · simp only [if_pos h1, if_pos (hk.trans h1)]
    exact ⟨trivial, S⟩
  have h1' : ¬ m.at_kicks = true := by rw [hk]; exact h1
  simp only [if_neg h1, if_neg h1']
  unfold kickC
  by_cases h2 : x.clock.runs = true
  · simp only [if_pos h2, if_pos (hr.trans h2)]
    exact ⟨rfl, S⟩
  have h2' : ¬ m.running = true := by rw [hr]; exact h2
  simp only [if_neg h2, if_neg h2']
  by_cases h3 : Kmt2.most x.clock ≤ x.clock.played
  · simp only [if_pos h3, if_pos (hp.trans (decide_eq_true h3))]
    exact ⟨rfl, S⟩
  have h3' : ¬ allPlayed m = true := by rw [hp]; simpa using h3
  have h4 := S.played
  have e2 : (0 : Int) < m.played + 1 := by omega
  have hr' : x.clock.runs = false := by simpa using h2
  have hmode := S.rest hr'
  simp only [if_neg h3, if_neg h3', if_pos e2, play_a, hmode]
  refine ⟨by rw [h4]; rfl, ?_⟩
  rw [if_neg (by decide)]
  unfold setPlay
  rw [if_pos rfl]
  exact { lens := S.lens, played := S.played, run := rfl, gone := fun _ => ⟨rfl, rfl, rfl, Nat.zero_le 1, by show x.clock.played < Kmt2.most x.clock; omega, by simpa using h1⟩, rest := fun q => (by cases q), play := rfl, most := S.most, a := still_sim S.a, b := still_sim S.b, kicks := S.kicks, won := S.won, full := S.full }
theorem tick_spec {x : Kmt4.Match} (h : x.won = 0) {n : Nat} : Kmt4.changes x (.tick n) = if n < 1 ∨ 3600 < n then (x, Kmt4.say (-22)) else if x.clock.runs = false then (x, Kmt4.say 0) else if 1000000 < x.clock.gone + n then (x, Kmt4.say (-28)) else
    ({ x with clock := { x.clock with gone := x.clock.gone + n, stood := if x.clock.stands then x.clock.stood + n else x.clock.stood } }, Kmt4.say ((x.clock.gone + n : Nat) : Int)) := by
  unfold Kmt4.changes Kmt4.byClock Kmt2.acts
  rw [if_neg (by simpa using h)]
  simp only [Option.map_some]
  by_cases h1 : n < 1 ∨ 3600 < n
  · simp only [if_pos h1]
    rfl
  by_cases h2 : x.clock.runs = false
  · simp only [if_neg h1, if_pos h2]
    rfl
  by_cases h3 : 1000000 < x.clock.gone + n
  · simp only [if_neg h1, if_neg h2, if_pos h3]
    rfl
  simp only [if_neg h1, if_neg h2, if_neg h3, Kmt2.say, neg_lt, if_false]
theorem tick_sim {m : M} {x : Kmt4.Match} (S : Sim m x) (h : x.won = 0) (n : Int) (hn : 0 ≤ n) : (Kmt4.changes x (.tick n.toNat)).2 = Kmt4.say (tickG m n).1 ∧ Sim (tickG m n).2 (Kmt4.changes x (.tick n.toNat)).1 := by
  rw [tick_spec h]
  unfold tickG tickC
  by_cases h1 : n < 1
  · simp only [if_pos h1, if_pos (show n.toNat < 1 ∨ 3600 < n.toNat from .inl (by omega))]
    exact ⟨trivial, S⟩
  by_cases h2 : 3600 < n
  · simp only [if_neg h1, if_pos h2, if_pos (show n.toNat < 1 ∨ 3600 < n.toNat from .inr (by omega))]
    exact ⟨trivial, S⟩
  simp only [if_neg h1, if_neg h2, if_neg (show ¬ (n.toNat < 1 ∨ 3600 < n.toNat) by omega)]
  by_cases hr : x.clock.runs = false
  · have hr' : ¬ m.running = true := by rw [S.run, hr]; simp
    simp only [if_pos hr, if_neg hr']
    exact ⟨trivial, S⟩
  have hr1 : x.clock.runs = true := by simpa using hr
  have hr' : m.running = true := S.run.trans hr1
  simp only [if_neg hr, if_pos hr']
  obtain ⟨g1, g2, g3, g4, g5, g6⟩ := S.gone hr1
  by_cases h3 : 1000000 < m.gone + n
  · simp only [if_pos h3, if_pos (show 1000000 < x.clock.gone + n.toNat by omega)]
    exact ⟨trivial, S⟩
  simp only [if_neg h3, if_neg (show ¬ 1000000 < x.clock.gone + n.toNat by omega)]
  have e2 : ((x.clock.gone + n.toNat : Nat) : Int) = m.gone + n := by omega
  refine ⟨by rw [e2], ?_⟩
  exact { lens := S.lens, played := S.played, run := S.run, gone := fun _ => ⟨e2.symm, (by
    show (if standing m = true then m.stood + n else m.stood) = (((if x.clock.stands = true then x.clock.stood + n.toNat else x.clock.stood) : Nat) : Int)
    rw [g3]
    split <;> omega), g3, g4, g5, g6⟩, rest := S.rest, play := S.play, most := S.most, a := S.a, b := S.b, kicks := S.kicks, won := S.won, full := S.full }
theorem stop_spec {x : Kmt4.Match} (h : x.won = 0) {w : Nat} : Kmt4.changes x (.halt_ w) = if 1 < w then (x, Kmt4.say (-22)) else if x.clock.runs = false then (x, Kmt4.say (-11)) else if x.clock.stands = (w == 1) then (x, Kmt4.say (-16)) else
    ({ x with clock := { x.clock with stands := w == 1 }, field := Kmt4.play x.field w }, Kmt4.say 0) := by
  unfold Kmt4.changes Kmt4.byClock Kmt2.acts
  rw [if_neg (by simpa using h)]
  simp only [Option.map_some]
  by_cases h1 : 1 < w
  · simp only [if_pos h1]
    rfl
  by_cases h2 : x.clock.runs = false
  · simp only [if_neg h1, if_pos h2]
    rfl
  by_cases h3 : x.clock.stands = (w == 1)
  · simp only [if_neg h1, if_neg h2, if_pos h3]
    rfl
  simp only [if_neg h1, if_neg h2, if_neg h3]
  rfl
theorem stop_sim {m : M} {x : Kmt4.Match} (S : Sim m x) (h : x.won = 0) (n : Int) (hn : 0 ≤ n) : (Kmt4.changes x (.halt_ n.toNat)).2 = Kmt4.say (stopG m n).1 ∧ Sim (stopG m n).2 (Kmt4.changes x (.halt_ n.toNat)).1 := by
  rw [stop_spec h]
  unfold stopG
  by_cases h1 : 1 < n
  · simp only [if_pos h1, if_pos (show 1 < n.toNat by omega)]
    exact ⟨trivial, S⟩
  simp only [if_neg h1, if_neg (show ¬ 1 < n.toNat by omega)]
  by_cases hr : x.clock.runs = false
  · have hr' : ¬ m.running = true := by rw [S.run, hr]; simp
    simp only [if_pos hr, if_neg hr']
    exact ⟨trivial, S⟩
  have hr1 : x.clock.runs = true := by simpa using hr
  have hr' : m.running = true := S.run.trans hr1
  simp only [if_neg hr, if_pos hr']
  obtain ⟨g1, g2, g3, g4, g5, g6⟩ := S.gone hr1
  have hw : (n.toNat == 1) = decide (n = 1) := by
    by_cases q : n = 1
    · subst q; rfl
    · rw [decide_eq_false q]
      exact beq_eq_false_iff_ne.mpr (by omega)
  by_cases h3 : standing m = decide (n = 1)
  · simp only [if_pos h3, if_pos (show x.clock.stands = (n.toNat == 1) by rw [hw, g3]; exact h3)]
    exact ⟨trivial, S⟩
  simp only [if_neg h3, if_neg (show ¬ x.clock.stands = (n.toNat == 1) by rw [hw, g3]; exact h3)]
  refine ⟨trivial, ?_⟩
  have hp := S.play
  have h01 : n = 0 ∨ n = 1 := by omega
  rcases h01 with rfl | rfl
  · have hm : ¬ x.field.mode = 0 := fun q => h3 (by unfold standing; rw [hp, q]; rfl)
    rw [if_neg (by decide)]
    rw [show (0 : Int).toNat = 0 from rfl, play_a, if_neg hm]
    unfold setPlay
    rw [if_pos rfl]
    exact { lens := S.lens, played := S.played, run := S.run, gone := fun _ => ⟨g1, g2, rfl, Nat.zero_le 1, g5, g6⟩, rest := fun q => absurd q hr, play := rfl, most := S.most, a := still_sim S.a, b := still_sim S.b, kicks := S.kicks, won := S.won, full := S.full }
  · rw [if_pos rfl]
    rw [show (1 : Int).toNat = 1 from rfl, play_r (by decide) (by decide)]
    unfold setPlay
    rw [if_neg (by decide)]
    exact { lens := S.lens, played := S.played, run := S.run, gone := fun _ => ⟨g1, g2, rfl, Nat.le_refl 1, g5, g6⟩, rest := fun q => absurd q hr, play := rfl, most := S.most, a := S.a, b := S.b, kicks := S.kicks, won := S.won, full := S.full }
theorem whistle_spec {x : Kmt4.Match} (h : x.won = 0) : Kmt4.changes x .whistle = if x.clock.runs = false then (x, Kmt4.say (-11)) else if Kmt2.mayEnd x.clock = false then (x, Kmt4.say (-35)) else
    (Kmt4.ended { x with clock := { x.clock with runs := false, played := x.clock.played + 1, gone := 0, stood := 0, stands := false }, field := Kmt4.play x.field 2 }, Kmt4.say ((x.clock.played + 1 : Nat) : Int)) := by
  unfold Kmt4.changes Kmt4.byClock Kmt2.acts
  rw [if_neg (by simpa using h)]
  simp only [Option.map_some]
  by_cases h2 : x.clock.runs = false
  · simp only [if_pos h2]
    rfl
  by_cases h3 : Kmt2.mayEnd x.clock = false
  · simp only [if_neg h2, if_pos h3]
    rfl
  simp only [if_neg h2, if_neg h3, Kmt2.say, neg_lt, if_false]
theorem whistle_sim {m : M} {x : Kmt4.Match} (S : Sim m x) (h : x.won = 0) : (Kmt4.changes x .whistle).2 = Kmt4.say (whistleG m).1 ∧ Sim (whistleG m).2 (Kmt4.changes x .whistle).1 := by
  rw [whistle_spec h]
  unfold whistleG whistleC
  by_cases hr : x.clock.runs = false
  · have hr' : ¬ m.running = true := by rw [S.run, hr]; simp
    simp only [if_pos hr, if_neg hr']
    exact ⟨rfl, S⟩
  have hr1 : x.clock.runs = true := by simpa using hr
  have hr' : m.running = true := S.run.trans hr1
  simp only [if_neg hr, if_pos hr']
  obtain ⟨g1, g2, g3, g4, g5, g6⟩ := S.gone hr1
  have hc := clen_eq S g5
  by_cases h3 : m.gone < clen m + m.stood
  · simp only [if_pos h3, if_pos (show Kmt2.mayEnd x.clock = false by unfold Kmt2.mayEnd; exact decide_eq_false (by omega))]
    exact ⟨rfl, S⟩
  have h3' : ¬ Kmt2.mayEnd x.clock = false := by
    unfold Kmt2.mayEnd
    rw [decide_eq_true (by omega)]
    simp
  have hp := S.played
  simp only [if_neg h3, if_neg h3', if_pos (show (0 : Int) < m.played + 1 by omega)]
  refine ⟨by rw [hp]; rfl, ?_⟩
  rw [play_r (by decide) (by decide)]
  unfold setPlay
  rw [if_neg (by decide)]
  have base : Sim { m with running := false, played := m.played + 1, play := 2 } { x with clock := { x.clock with runs := false, played := x.clock.played + 1, gone := 0, stood := 0, stands := false }, field := { x.field with mode := 2 } } :=
    { lens := S.lens, played := by show m.played + 1 = ((x.clock.played + 1 : Nat) : Int); omega, run := rfl, gone := fun q => (by cases q), rest := fun _ => rfl, play := rfl, most := by show x.clock.played + 1 ≤ Kmt2.most x.clock; omega, a := S.a, b := S.b, kicks := S.kicks, won := S.won, full := S.full }
  have hmost : Kmt2.most x.clock = 2 ∨ Kmt2.most x.clock = 4 := by
    unfold Kmt2.most
    split
    · exact .inl rfl
    · exact .inr rfl
  have ha := S.a.sc
  have hb := S.b.sc
  have hall := allPlayed_eq base
  unfold settle Kmt4.ended
  simp only [Kmt4.score, Kmt1.team, if_true, Nat.one_ne_zero, if_false]
  by_cases q1 : (m.played + 1) % 2 = 1
  · have n1 : ¬ ((x.clock.played + 1 = 2 ∨ x.clock.played + 1 = 4) ∧ x.field.a.score ≠ x.field.b.score) := by omega
    have n2 : ¬ x.clock.played + 1 = Kmt2.most x.clock := by omega
    simp only [if_pos q1, if_neg n1, if_neg (show ¬ x.clock.played + 1 = Kmt2.most { x.clock with runs := false, played := x.clock.played + 1, gone := 0, stood := 0, stands := false } from n2)]
    exact base
  have q2 : x.clock.played + 1 = 2 ∨ x.clock.played + 1 = 4 := by omega
  simp only [if_neg q1]
  by_cases q3 : m.sc0 = m.sc1
  · have n1 : ¬ ((x.clock.played + 1 = 2 ∨ x.clock.played + 1 = 4) ∧ x.field.a.score ≠ x.field.b.score) := by omega
    simp only [if_neg n1, if_pos q3]
    by_cases q4 : x.clock.played + 1 = Kmt2.most x.clock
    · have h5 := hall.trans (decide_eq_true (by show Kmt2.most x.clock ≤ x.clock.played + 1; omega))
      simp only [if_pos (show x.clock.played + 1 = Kmt2.most { x.clock with runs := false, played := x.clock.played + 1, gone := 0, stood := 0, stands := false } from q4), if_pos h5]
      exact { lens := base.lens, played := base.played, run := rfl, gone := fun q => (by cases q), rest := fun _ => rfl, play := rfl, most := base.most, a := S.a, b := S.b, kicks := rfl, won := S.won, full := S.full }
    · have h5 := hall.trans (decide_eq_false (by show ¬ Kmt2.most x.clock ≤ x.clock.played + 1; omega))
      simp only [if_neg (show ¬ x.clock.played + 1 = Kmt2.most { x.clock with runs := false, played := x.clock.played + 1, gone := 0, stood := 0, stands := false } from q4), h5, Bool.false_eq_true, if_false]
      exact base
  · simp only [if_pos (show (x.clock.played + 1 = 2 ∨ x.clock.played + 1 = 4) ∧ x.field.a.score ≠ x.field.b.score from ⟨q2, by omega⟩), if_neg q3]
    refine { lens := base.lens, played := base.played, run := rfl, gone := fun q => (by cases q), rest := fun _ => rfl, play := rfl, most := base.most, a := S.a, b := S.b, kicks := S.kicks, won := ?_, full := fun q => ?_ }
    · show (if m.sc1 < m.sc0 then (1 : Int) else 2) = (((if x.field.b.score < x.field.a.score then 1 else 2) : Nat) : Int)
      by_cases q : m.sc1 < m.sc0
      · rw [if_pos q, if_pos (by omega)]; rfl
      · rw [if_neg q, if_neg (by omega)]; rfl
    · have : (if x.field.b.score < x.field.a.score then 1 else 2) = 0 := q
      split at this <;> cases this
theorem pl_at {m : M} {x : Kmt4.Match} (S : Sim m x) {t p : Int} (ht : t = 0 ∨ t = 1) (hp : 0 ≤ p) (h : p < 18) :
    (pl m t).getD p.toNat 0 = ((Kmt1.place (Kmt1.team x.field t.toNat) p.toNat : Nat) : Int) ∧ (Kmt1.place (Kmt1.team x.field t.toNat) p.toNat ≠ 4 → (Kmt1.player (Kmt1.team x.field t.toNat) p.toNat).yellow = if (bk m t).getD p.toNat false = true then 1 else 0) := by
  rcases ht with rfl | rfl
  · exact S.a.ps.at_ p.toNat (by omega)
  · exact S.b.ps.at_ p.toNat (by omega)
theorem card_spec {x : Kmt4.Match} (h : x.won = 0) {t k c : Nat} : Kmt4.changes x (.card t k c) = if 1 < t ∨ 17 < k ∨ 1 < c then (x, Kmt4.say (-22)) else if Kmt1.place (Kmt1.team x.field t) k = 4 then (x, Kmt4.say (-4)) else
    (Kmt4.counted { x with field := Kmt1.put x.field t (Kmt1.carded (Kmt1.team x.field t) k c).1 }, Kmt4.say (if (Kmt1.carded (Kmt1.team x.field t) k c).2 then 1 else 0)) := by
  unfold Kmt4.changes Kmt4.byField Kmt1.acts
  rw [if_neg (by simpa using h)]
  simp only [Option.map_some]
  by_cases h1 : 1 < t ∨ 17 < k ∨ 1 < c
  · simp only [if_pos h1]
    rfl
  by_cases h2 : Kmt1.place (Kmt1.team x.field t) k = 4
  · simp only [if_neg h1, if_pos h2]
    rfl
  simp only [if_neg h1, if_neg h2, Kmt1.say]
  cases (Kmt1.carded (Kmt1.team x.field t) k c).2 <;> rfl
/-- a team's part of a match, and who has won -/
theorem Sim.setA {m : M} {x : Kmt4.Match} (S : Sim m x) {y : Kmt1.Team} {p : List Int} {b : List Bool} {ch wi : Int} {iw : Bool} {sc : Int} (Y : TmSim y p b ch wi iw sc) {v : Nat} (hf : v = 0 → x.won = 0 ∧ 7 ≤ p.count 1) :
    Sim { m with pl0 := p, bk0 := b, ch0 := ch, wi0 := wi, iw0 := iw, sc0 := sc, winner := (v : Int) } { x with field := { x.field with a := y }, won := v } := by
  refine { lens := S.lens, played := S.played, run := S.run, gone := S.gone, rest := S.rest, play := S.play, most := S.most, a := Y, b := S.b, kicks := S.kicks, won := rfl, full := fun q => ?_ }
  obtain ⟨h1, h2⟩ := hf q
  refine ⟨?_, (S.full h1).2⟩
  have e := Y.on
  show decide ((Kmt1.on y).length < 7) = false
  exact decide_eq_false (by omega)
theorem Sim.setB {m : M} {x : Kmt4.Match} (S : Sim m x) {y : Kmt1.Team} {p : List Int} {b : List Bool} {ch wi : Int} {iw : Bool} {sc : Int} (Y : TmSim y p b ch wi iw sc) {v : Nat} (hf : v = 0 → x.won = 0 ∧ 7 ≤ p.count 1) :
    Sim { m with pl1 := p, bk1 := b, ch1 := ch, wi1 := wi, iw1 := iw, sc1 := sc, winner := (v : Int) } { x with field := { x.field with b := y }, won := v } := by
  refine { lens := S.lens, played := S.played, run := S.run, gone := S.gone, rest := S.rest, play := S.play, most := S.most, a := S.a, b := Y, kicks := S.kicks, won := rfl, full := fun q => ?_ }
  obtain ⟨h1, h2⟩ := hf q
  refine ⟨(S.full h1).1, ?_⟩
  have e := Y.on
  show decide ((Kmt1.on y).length < 7) = false
  exact decide_eq_false (by omega)
theorem Sim.cnt {m : M} {x : Kmt4.Match} (S : Sim m x) (h : x.won = 0) : 7 ≤ m.pl0.count 1 ∧ 7 ≤ m.pl1.count 1 := by
  obtain ⟨h1, h2⟩ := S.full h
  have e1 := S.a.on
  have e2 := S.b.on
  have h1 : decide ((Kmt1.on x.field.a).length < 7) = false := h1
  have h2 : decide ((Kmt1.on x.field.b).length < 7) = false := h2
  have h1 := of_decide_eq_false h1
  have h2 := of_decide_eq_false h2
  omega
theorem sent_players {x : Kmt1.Team} {k : Nat} {q : Kmt1.Player} (h : k < x.players.length) : Kmt1.sent { x with players := x.players.set k q } k = { x with players := x.players.set k ⟨4, q.yellow⟩ } := by
  unfold Kmt1.sent Kmt1.place_ Kmt1.player
  have e : (x.players.set k q).getD k ⟨4, 0⟩ = q := by simp [List.getElem?_set_self h]
  simp only [e, List.set_set]
/-- a card's two ways -/
theorem carded_sent {x : Kmt1.Team} {k c : Nat} (h : k < x.players.length) (hc : c = 1 ∨ (Kmt1.player x k).yellow = 1) : ∃ y, Kmt1.carded x k c = ({ x with players := x.players.set k ⟨4, y⟩ }, true) := by
  unfold Kmt1.carded
  rw [if_pos hc, sent_players h]
  exact ⟨_, rfl⟩
theorem carded_not {x : Kmt1.Team} {k c : Nat} (hc : ¬ (c = 1 ∨ (Kmt1.player x k).yellow = 1)) : Kmt1.carded x k c = ({ x with players := x.players.set k { Kmt1.player x k with yellow := 1 } }, false) := by
  unfold Kmt1.carded
  rw [if_neg hc]
theorem card_sim {m : M} {x : Kmt4.Match} (S : Sim m x) (h : x.won = 0) (t p c : Int) (ht : 0 ≤ t) (hp : 0 ≤ p) (hc : 0 ≤ c) :
    (Kmt4.changes x (.card t.toNat p.toNat c.toNat)).2 = Kmt4.say (cardG m t p c).1 ∧ Sim (cardG m t p c).2 (Kmt4.changes x (.card t.toNat p.toNat c.toNat)).1 := by
  rw [card_spec h]
  unfold cardG cardF
  by_cases h1 : 1 < t
  · simp only [if_pos h1, if_pos (show 1 < t.toNat ∨ 17 < p.toNat ∨ 1 < c.toNat from .inl (by omega))]
    exact ⟨rfl, S⟩
  by_cases h2 : 18 ≤ p
  · simp only [if_neg h1, if_pos h2, if_pos (show 1 < t.toNat ∨ 17 < p.toNat ∨ 1 < c.toNat from .inr (.inl (by omega)))]
    exact ⟨rfl, S⟩
  by_cases h3 : 1 < c
  · simp only [if_neg h1, if_neg h2, if_pos h3, if_pos (show 1 < t.toNat ∨ 17 < p.toNat ∨ 1 < c.toNat from .inr (.inr (by omega)))]
    exact ⟨rfl, S⟩
  simp only [if_neg h1, if_neg h2, if_neg h3, if_neg (show ¬ (1 < t.toNat ∨ 17 < p.toNat ∨ 1 < c.toNat) by omega)]
  have ht' : t = 0 ∨ t = 1 := by omega
  obtain ⟨a1, a2⟩ := pl_at S ht' hp (by omega)
  by_cases h4 : Kmt1.place (Kmt1.team x.field t.toNat) p.toNat = 4
  · simp only [if_pos h4, if_pos (show (pl m t).getD p.toNat 0 = 4 by rw [a1, h4]; rfl)]
    exact ⟨rfl, S⟩
  have h4' : ¬ (pl m t).getD p.toNat 0 = 4 := by rw [a1]; omega
  simp only [if_neg h4, if_neg h4']
  have a3 := a2 h4
  have hc01 : c = 0 ∨ c = 1 := by omega
  have hp18 : p.toNat < 18 := by omega
  obtain ⟨n0, n1⟩ := S.cnt h
  have w0 := S.won
  rw [h] at w0
  -- sent off, or not
  by_cases h5 : c = 0 ∧ (bk m t).getD p.toNat false = false
  · obtain ⟨rfl, h6⟩ := h5
    rw [h6] at a3
    have a4 : ¬ ((0 : Int).toNat = 1 ∨ (Kmt1.player (Kmt1.team x.field t.toNat) p.toNat).yellow = 1) := by
      rw [a3]
      simp
    rw [carded_not a4]
    simp only [h6, Bool.false_eq_true, if_false, if_true, if_neg (show ¬ (0 : Int) = 1 by decide)]
    refine ⟨trivial, ?_⟩
    rcases ht' with rfl | rfl
    · have Y : TmSim { x.field.a with players := x.field.a.players.set p.toNat { Kmt1.player x.field.a p.toNat with yellow := 1 } } m.pl0 (m.bk0.set p.toNat true) m.ch0 m.wi0 m.iw0 m.sc0 := ⟨S.a.ps.setB hp18, S.a.ch, S.a.le, S.a.wi, S.a.iw, S.a.sc, S.a.sl⟩
      have Z := S.setA Y (v := 0) fun _ => ⟨h, n0⟩
      have f := Z.full rfl
      unfold Kmt4.counted setBk
      have f0 : Kmt4.few { x with field := Kmt1.put x.field (0 : Int).toNat { Kmt1.team x.field (0 : Int).toNat with players := (Kmt1.team x.field (0 : Int).toNat).players.set p.toNat { Kmt1.player (Kmt1.team x.field (0 : Int).toNat) p.toNat with yellow := 1 } } } 0 = false := f.1
      have f1 : Kmt4.few { x with field := Kmt1.put x.field (0 : Int).toNat { Kmt1.team x.field (0 : Int).toNat with players := (Kmt1.team x.field (0 : Int).toNat).players.set p.toNat { Kmt1.player (Kmt1.team x.field (0 : Int).toNat) p.toNat with yellow := 1 } } } 1 = false := f.2
      simp only [f0, f1, Bool.false_eq_true, if_false, if_true]
      rw [show ((0 : Nat) : Int) = m.winner from w0.symm, show (0 : Nat) = x.won from h.symm] at Z
      exact Z
    · have Y : TmSim { x.field.b with players := x.field.b.players.set p.toNat { Kmt1.player x.field.b p.toNat with yellow := 1 } } m.pl1 (m.bk1.set p.toNat true) m.ch1 m.wi1 m.iw1 m.sc1 := ⟨S.b.ps.setB hp18, S.b.ch, S.b.le, S.b.wi, S.b.iw, S.b.sc, S.b.sl⟩
      have Z := S.setB Y (v := 0) fun _ => ⟨h, n1⟩
      have f := Z.full rfl
      unfold Kmt4.counted setBk
      have f0 : Kmt4.few { x with field := Kmt1.put x.field (1 : Int).toNat { Kmt1.team x.field (1 : Int).toNat with players := (Kmt1.team x.field (1 : Int).toNat).players.set p.toNat { Kmt1.player (Kmt1.team x.field (1 : Int).toNat) p.toNat with yellow := 1 } } } 0 = false := f.1
      have f1 : Kmt4.few { x with field := Kmt1.put x.field (1 : Int).toNat { Kmt1.team x.field (1 : Int).toNat with players := (Kmt1.team x.field (1 : Int).toNat).players.set p.toNat { Kmt1.player (Kmt1.team x.field (1 : Int).toNat) p.toNat with yellow := 1 } } } 1 = false := f.2
      simp only [f0, f1, Bool.false_eq_true, if_false, if_neg (show ¬ (1 : Int) = 0 by decide)]
      rw [show ((0 : Nat) : Int) = m.winner from w0.symm, show (0 : Nat) = x.won from h.symm] at Z
      exact Z
  · have e6 : (if c = 0 then if (bk m t).getD p.toNat false = true then ((1 : Int), setPl m t p 4) else (0, setBk m t p) else (1, setPl m t p 4)) = (1, setPl m t p 4) := by
      by_cases q : c = 0
      · rw [if_pos q, if_pos]
        cases q2 : (bk m t).getD p.toNat false with
        | true => rfl
        | false => exact absurd ⟨q, q2⟩ h5
      · rw [if_neg q]
    have a4 : c.toNat = 1 ∨ (Kmt1.player (Kmt1.team x.field t.toNat) p.toNat).yellow = 1 := by
      by_cases q : c = 0
      · right
        rw [a3, if_pos]
        cases q2 : (bk m t).getD p.toNat false with
        | true => rfl
        | false => exact absurd ⟨q, q2⟩ h5
      · left
        omega
    have hlen : p.toNat < (Kmt1.team x.field t.toNat).players.length := by
      have q0 := S.a.ps.len
      have q1 := S.b.ps.len
      rcases ht' with rfl | rfl
      · show p.toNat < x.field.a.players.length
        omega
      · show p.toNat < x.field.b.players.length
        omega
    obtain ⟨y, hy⟩ := carded_sent hlen a4
    simp only [e6, hy, if_true]
    rcases ht' with rfl | rfl
    · have Y : TmSim { x.field.a with players := x.field.a.players.set p.toNat ⟨4, y⟩ } (m.pl0.set p.toNat 4) m.bk0 m.ch0 m.wi0 m.iw0 m.sc0 := ⟨S.a.ps.setP (z := 4) hp18 fun q => absurd rfl q, S.a.ch, S.a.le, S.a.wi, S.a.iw, S.a.sc, S.a.sl⟩
      have e := Y.on
      by_cases hf : ((m.pl0.set p.toNat 4).count 1 : Nat) < 7
      · have Z := S.setA Y (v := 2) fun q => (by cases q)
        have f0 : few (setPl m 0 p 4) 0 = true := by
          rw [few_cnt (by show (m.pl0.set p.toNat 4).length = 18; rw [List.length_set]; exact S.a.ps.lp)]
          show decide ((((m.pl0.set p.toNat 4).count 1 : Nat) : Int) < 7) = true
          exact decide_eq_true (by omega)
        have g0 : Kmt4.few { x with field := Kmt1.put x.field (0 : Int).toNat { Kmt1.team x.field (0 : Int).toNat with players := (Kmt1.team x.field (0 : Int).toNat).players.set p.toNat ⟨4, y⟩ } } 0 = true := decide_eq_true (show (Kmt1.on { x.field.a with players := x.field.a.players.set p.toNat ⟨4, y⟩ }).length < 7 by omega)
        unfold Kmt4.counted
        simp only [f0, g0, if_true]
        exact ⟨trivial, Z⟩
      · have Z := S.setA Y (v := 0) fun q => ⟨h, by omega⟩
        have f0 : few (setPl m 0 p 4) 0 = false := by
          rw [few_cnt (by show (m.pl0.set p.toNat 4).length = 18; rw [List.length_set]; exact S.a.ps.lp)]
          show decide ((((m.pl0.set p.toNat 4).count 1 : Nat) : Int) < 7) = false
          exact decide_eq_false (by omega)
        have f := Z.full rfl
        have g0 : Kmt4.few { x with field := Kmt1.put x.field (0 : Int).toNat { Kmt1.team x.field (0 : Int).toNat with players := (Kmt1.team x.field (0 : Int).toNat).players.set p.toNat ⟨4, y⟩ } } 0 = false := f.1
        have g1 : Kmt4.few { x with field := Kmt1.put x.field (0 : Int).toNat { Kmt1.team x.field (0 : Int).toNat with players := (Kmt1.team x.field (0 : Int).toNat).players.set p.toNat ⟨4, y⟩ } } 1 = false := f.2
        unfold Kmt4.counted
        simp only [f0, g0, g1, Bool.false_eq_true, if_false]
        rw [show ((0 : Nat) : Int) = m.winner from w0.symm, show (0 : Nat) = x.won from h.symm] at Z
        exact ⟨trivial, Z⟩
    · have Y : TmSim { x.field.b with players := x.field.b.players.set p.toNat ⟨4, y⟩ } (m.pl1.set p.toNat 4) m.bk1 m.ch1 m.wi1 m.iw1 m.sc1 := ⟨S.b.ps.setP (z := 4) hp18 fun q => absurd rfl q, S.b.ch, S.b.le, S.b.wi, S.b.iw, S.b.sc, S.b.sl⟩
      have e := Y.on
      by_cases hf : ((m.pl1.set p.toNat 4).count 1 : Nat) < 7
      · have Z := S.setB Y (v := 1) fun q => (by cases q)
        have f0 : few (setPl m 1 p 4) 1 = true := by
          rw [few_cnt (by show (m.pl1.set p.toNat 4).length = 18; rw [List.length_set]; exact S.b.ps.lp)]
          show decide ((((m.pl1.set p.toNat 4).count 1 : Nat) : Int) < 7) = true
          exact decide_eq_true (by omega)
        have g0 : Kmt4.few { x with field := Kmt1.put x.field (1 : Int).toNat { Kmt1.team x.field (1 : Int).toNat with players := (Kmt1.team x.field (1 : Int).toNat).players.set p.toNat ⟨4, y⟩ } } 1 = true := decide_eq_true (show (Kmt1.on { x.field.b with players := x.field.b.players.set p.toNat ⟨4, y⟩ }).length < 7 by omega)
        have g1 : Kmt4.few { x with field := Kmt1.put x.field (1 : Int).toNat { Kmt1.team x.field (1 : Int).toNat with players := (Kmt1.team x.field (1 : Int).toNat).players.set p.toNat ⟨4, y⟩ } } 0 = false := (S.full h).1
        unfold Kmt4.counted
        simp only [f0, g0, if_true, g1, Bool.false_eq_true, if_false]
        exact ⟨trivial, Z⟩
      · have Z := S.setB Y (v := 0) fun q => ⟨h, by omega⟩
        have f0 : few (setPl m 1 p 4) 1 = false := by
          rw [few_cnt (by show (m.pl1.set p.toNat 4).length = 18; rw [List.length_set]; exact S.b.ps.lp)]
          show decide ((((m.pl1.set p.toNat 4).count 1 : Nat) : Int) < 7) = false
          exact decide_eq_false (by omega)
        have f := Z.full rfl
        have g0 : Kmt4.few { x with field := Kmt1.put x.field (1 : Int).toNat { Kmt1.team x.field (1 : Int).toNat with players := (Kmt1.team x.field (1 : Int).toNat).players.set p.toNat ⟨4, y⟩ } } 0 = false := f.1
        have g1 : Kmt4.few { x with field := Kmt1.put x.field (1 : Int).toNat { Kmt1.team x.field (1 : Int).toNat with players := (Kmt1.team x.field (1 : Int).toNat).players.set p.toNat ⟨4, y⟩ } } 1 = false := f.2
        unfold Kmt4.counted
        simp only [f0, g0, g1, Bool.false_eq_true, if_false]
        rw [show ((0 : Nat) : Int) = m.winner from w0.symm, show (0 : Nat) = x.won from h.symm] at Z
        exact ⟨trivial, Z⟩
theorem PlSim.setPlace {ps : List Kmt1.Player} {pl : List Int} {bk : List Bool} (S : PlSim ps pl bk) {k z : Nat} (hk : k < 18) (h : (ps.getD k ⟨4, 0⟩).place ≠ 4) (hz : z ≠ 4) : PlSim (ps.set k { ps.getD k ⟨4, 0⟩ with place := z }) (pl.set k (z : Int)) bk :=
  S.setP hk fun _ => (S.at_ k hk).2 h
theorem change_spec {x : Kmt4.Match} (h : x.won = 0) {t o i : Nat} : Kmt4.changes x (.change t o i) = if 1 < t ∨ 17 < o ∨ 17 < i then (x, Kmt4.say (-22)) else if x.toKicks = true then (x, Kmt4.say (-16)) else if x.field.mode = 0 then (x, Kmt4.say (-16)) else
    if Kmt1.place (Kmt1.team x.field t) o ≠ 1 then (x, Kmt4.say (-61)) else if Kmt1.place (Kmt1.team x.field t) i ≠ 2 then (x, Kmt4.say (-62)) else if (Kmt1.team x.field t).changes = 5 then (x, Kmt4.say (-28)) else
    if x.field.mode ≠ 2 ∧ (Kmt1.team x.field t).had = false ∧ (Kmt1.team x.field t).windows = 3 then (x, Kmt4.say (-29)) else
      ({ x with field := Kmt1.put x.field t (Kmt1.changed (Kmt1.team x.field t) o i (x.field.mode == 2)) }, Kmt4.say ((4 - (Kmt1.team x.field t).changes : Nat) : Int)) := by
  unfold Kmt4.changes Kmt4.byField Kmt1.acts
  rw [if_neg (by simpa using h)]
  simp only [Option.map_some]
  by_cases h1 : 1 < t ∨ 17 < o ∨ 17 < i
  · simp only [if_pos h1]
  by_cases h2 : x.toKicks = true
  · simp only [if_neg h1, if_pos h2]
  by_cases h3 : x.field.mode = 0
  · simp only [if_neg h1, if_neg h2, if_pos h3]
    rfl
  by_cases h4 : Kmt1.place (Kmt1.team x.field t) o ≠ 1
  · simp only [if_neg h1, if_neg h2, if_neg h3, if_pos h4]
    rfl
  by_cases h5 : Kmt1.place (Kmt1.team x.field t) i ≠ 2
  · simp only [if_neg h1, if_neg h2, if_neg h3, if_neg h4, if_pos h5]
    rfl
  by_cases h6 : (Kmt1.team x.field t).changes = 5
  · simp only [if_neg h1, if_neg h2, if_neg h3, if_neg h4, if_neg h5, if_pos h6]
    rfl
  by_cases h7 : x.field.mode ≠ 2 ∧ (Kmt1.team x.field t).had = false ∧ (Kmt1.team x.field t).windows = 3
  · simp only [if_neg h1, if_neg h2, if_neg h3, if_neg h4, if_neg h5, if_neg h6, if_pos h7]
    rfl
  simp only [if_neg h1, if_neg h2, if_neg h3, if_neg h4, if_neg h5, if_neg h6, if_neg h7, Kmt1.say, neg_lt, if_false]
theorem change_sim {m : M} {x : Kmt4.Match} (S : Sim m x) (h : x.won = 0) (t o i : Int) (ht : 0 ≤ t) (ho : 0 ≤ o) (hi : 0 ≤ i) :
    (Kmt4.changes x (.change t.toNat o.toNat i.toNat)).2 = Kmt4.say (changeG m t o i).1 ∧ Sim (changeG m t o i).2 (Kmt4.changes x (.change t.toNat o.toNat i.toNat)).1 := by
  rw [change_spec h]
  unfold changeG changeF
  have hk := S.kicks
  have hpl := S.play
  have low : ∀ z : Int, z < 0 → changeR m t o i m.at_kicks = z → ∀ y, y = Kmt4.say z → (y = Kmt4.say (if changeR m t o i m.at_kicks < 0 then (changeR m t o i m.at_kicks, m) else (5 - chs (addCh (setPl (setPl (takeW m t) t o 3) t i 1) t) t, addCh (setPl (setPl (takeW m t) t o 3) t i 1) t)).1 ∧
      Sim (if changeR m t o i m.at_kicks < 0 then (changeR m t o i m.at_kicks, m) else (5 - chs (addCh (setPl (setPl (takeW m t) t o 3) t i 1) t) t, addCh (setPl (setPl (takeW m t) t o 3) t i 1) t)).2 x) := fun z hz e y ey => by
    rw [e, if_pos hz, ey]
    exact ⟨rfl, S⟩
  by_cases h1 : 1 < t
  · simp only [if_pos (show 1 < t.toNat ∨ 17 < o.toNat ∨ 17 < i.toNat from .inl (by omega))]
    exact low (-22) (by decide) (by unfold changeR; rw [if_pos h1]) _ rfl
  by_cases h2 : 18 ≤ o
  · simp only [if_pos (show 1 < t.toNat ∨ 17 < o.toNat ∨ 17 < i.toNat from .inr (.inl (by omega)))]
    exact low (-22) (by decide) (by unfold changeR; rw [if_neg h1, if_pos h2]) _ rfl
  by_cases h3 : 18 ≤ i
  · simp only [if_pos (show 1 < t.toNat ∨ 17 < o.toNat ∨ 17 < i.toNat from .inr (.inr (by omega)))]
    exact low (-22) (by decide) (by unfold changeR; rw [if_neg h1, if_neg h2, if_pos h3]) _ rfl
  have eR : changeR m t o i m.at_kicks = if m.at_kicks = true then -16 else if standing m = true then
      (if (pl m t).getD o.toNat 0 = 1 then (if (pl m t).getD i.toNat 0 = 2 then (if chs m t = 5 then -28 else if needsW m t = true then (if wis m t = 3 then -29 else 0) else 0) else -62) else -61) else -16 := by
    unfold changeR
    rw [if_neg h1, if_neg h2, if_neg h3]
  simp only [if_neg (show ¬ (1 < t.toNat ∨ 17 < o.toNat ∨ 17 < i.toNat) by omega)]
  by_cases h4 : x.toKicks = true
  · simp only [if_pos h4]
    exact low (-16) (by decide) (by rw [eR, if_pos (hk.trans h4)]) _ rfl
  have h4' : ¬ m.at_kicks = true := by rw [hk]; exact h4
  simp only [if_neg h4]
  rw [if_neg h4'] at eR
  by_cases h5 : x.field.mode = 0
  · simp only [if_pos h5]
    exact low (-16) (by decide) (by rw [eR, if_neg]; unfold standing; rw [hpl, h5]; simp) _ rfl
  have hst : standing m = true := by
    unfold standing
    rw [hpl, decide_eq_false (by omega)]
    rfl
  simp only [if_neg h5]
  rw [if_pos hst] at eR
  have ht' : t = 0 ∨ t = 1 := by omega
  obtain ⟨o1, o2⟩ := pl_at S ht' ho (by omega)
  obtain ⟨i1, i2⟩ := pl_at S ht' hi (by omega)
  by_cases h6 : Kmt1.place (Kmt1.team x.field t.toNat) o.toNat ≠ 1
  · simp only [if_pos h6]
    exact low (-61) (by decide) (by rw [eR, if_neg]; rw [o1]; omega) _ rfl
  have h6 : Kmt1.place (Kmt1.team x.field t.toNat) o.toNat = 1 := by simpa using h6
  rw [if_pos (show (pl m t).getD o.toNat 0 = 1 by rw [o1, h6]; rfl)] at eR
  by_cases h7 : Kmt1.place (Kmt1.team x.field t.toNat) i.toNat ≠ 2
  · simp only [if_neg (show ¬ Kmt1.place (Kmt1.team x.field t.toNat) o.toNat ≠ 1 by simpa using h6), if_pos h7]
    exact low (-62) (by decide) (by rw [eR, if_neg]; rw [i1]; omega) _ rfl
  have h7 : Kmt1.place (Kmt1.team x.field t.toNat) i.toNat = 2 := by simpa using h7
  rw [if_pos (show (pl m t).getD i.toNat 0 = 2 by rw [i1, h7]; rfl)] at eR
  simp only [if_neg (show ¬ Kmt1.place (Kmt1.team x.field t.toNat) o.toNat ≠ 1 by simpa using h6), if_neg (show ¬ Kmt1.place (Kmt1.team x.field t.toNat) i.toNat ≠ 2 by simpa using h7)]
  have hch : chs m t = ((Kmt1.team x.field t.toNat).changes : Int) ∧ wis m t = ((Kmt1.team x.field t.toNat).windows : Int) ∧ iws m t = (Kmt1.team x.field t.toNat).had := by
    rcases ht' with rfl | rfl
    · exact ⟨S.a.ch, S.a.wi, S.a.iw⟩
    · exact ⟨S.b.ch, S.b.wi, S.b.iw⟩
  obtain ⟨t1, t2, t3⟩ := hch
  by_cases h8 : (Kmt1.team x.field t.toNat).changes = 5
  · simp only [if_pos h8]
    exact low (-28) (by decide) (by rw [eR, if_pos]; rw [t1, h8]; rfl) _ rfl
  rw [if_neg (show ¬ chs m t = 5 by rw [t1]; omega)] at eR
  simp only [if_neg h8]
  have hmode : x.field.mode = 1 ∨ x.field.mode = 2 := by
    cases q : x.clock.runs with
    | true =>
      have := (S.gone q).2.2.2.1
      omega
    | false =>
      have := S.rest q
      omega
  have nw : needsW m t = if x.field.mode = 1 then !iws m t else false := by
    unfold needsW
    rw [hpl]
    by_cases q : x.field.mode = 1
    · rw [if_pos q, if_pos (by omega)]
    · rw [if_neg q, if_neg (by omega)]
  by_cases h9 : x.field.mode ≠ 2 ∧ (Kmt1.team x.field t.toNat).had = false ∧ (Kmt1.team x.field t.toNat).windows = 3
  · simp only [if_pos h9]
    refine low (-29) (by decide) ?_ _ rfl
    rw [eR, if_pos, if_pos]
    · rw [t2, h9.2.2]; rfl
    · rw [nw, if_pos (by omega), t3, h9.2.1]; rfl
  simp only [if_neg h9]
  have hR : changeR m t o i m.at_kicks = 0 := by
    rw [eR]
    by_cases q : needsW m t = true
    · rw [if_pos q, if_neg]
      intro q3
      rw [nw] at q
      apply h9
      have qm : x.field.mode = 1 := by
        by_cases qq : x.field.mode = 1
        · exact qq
        · rw [if_neg qq] at q; cases q
      rw [if_pos qm, t3] at q
      refine ⟨by omega, by simpa using q, by omega⟩
    · rw [if_neg q]
  rw [hR, if_neg (by decide)]
  obtain ⟨n0, n1⟩ := S.cnt h
  have w0 := S.won
  rw [h] at w0
  have ho18 : o.toNat < 18 := by omega
  have hi18 : i.toNat < 18 := by omega
  clear low eR hR
  show Kmt4.say _ = Kmt4.say _ ∧ Sim _ _
  · rcases ht' with rfl | rfl
    · have b1 : m.pl0.getD o.toNat 0 = ((Kmt1.place x.field.a o.toNat : Nat) : Int) := o1
      have c1 : m.pl0.getD i.toNat 0 = ((Kmt1.place x.field.a i.toNat : Nat) : Int) := i1
      have L := S.a.ps.lp
      have hch := S.a.ch
      have hle := S.a.le
      have hwi := S.a.wi
      have hiw := S.a.iw
      have h6' : Kmt1.place x.field.a o.toNat = 1 := h6
      have h7' : Kmt1.place x.field.a i.toNat = 2 := h7
      have P1 := S.a.ps.setPlace (k := o.toNat) (z := 3) ho18 (by show Kmt1.place x.field.a o.toNat ≠ 4; omega) (by decide)
      have hne : ¬ o.toNat = i.toNat := fun q => by rw [q, h7'] at h6'; cases h6'
      have eP : (x.field.a.players.set o.toNat { x.field.a.players.getD o.toNat ⟨4, 0⟩ with place := 3 }).getD i.toNat ⟨4, 0⟩ = x.field.a.players.getD i.toNat ⟨4, 0⟩ := by simp [List.getElem?_set_ne hne]
      have P2 := P1.setPlace (k := i.toNat) (z := 1) hi18 (by rw [eP]; show Kmt1.place x.field.a i.toNat ≠ 4; omega) (by decide)
      have Y : TmSim (Kmt1.changed x.field.a o.toNat i.toNat (x.field.mode == 2)) ((m.pl0.set o.toNat 3).set i.toNat 1) m.bk0 (m.ch0 + 1) (if needsW m 0 = true then m.wi0 + 1 else m.wi0) (if needsW m 0 = true then true else m.iw0) m.sc0 := by
        refine ⟨P2, ?_, ?_, ?_, ?_, S.a.sc, S.a.sl⟩
        · show m.ch0 + 1 = ((x.field.a.changes + 1 : Nat) : Int)
          omega
        · show x.field.a.changes + 1 ≤ 5
          have : ¬ x.field.a.changes = 5 := h8
          omega
        · show (if needsW m 0 = true then m.wi0 + 1 else m.wi0) = (((if (x.field.mode == 2 || x.field.a.had) = true then x.field.a.windows else x.field.a.windows + 1) : Nat) : Int)
          rw [nw]
          show (if (if x.field.mode = 1 then !m.iw0 else false) = true then _ else _) = _
          rw [hiw]
          rcases hmode with q | q <;> rw [q] <;> cases x.field.a.had <;> simp <;> omega
        · show (if needsW m 0 = true then true else m.iw0) = (x.field.a.had || !(x.field.mode == 2))
          rw [nw]
          show (if (if x.field.mode = 1 then !m.iw0 else false) = true then true else m.iw0) = _
          rw [hiw]
          rcases hmode with q | q <;> rw [q] <;> cases x.field.a.had <;> rfl
      have hcnt : ((m.pl0.set o.toNat 3).set i.toNat 1).count 1 = m.pl0.count 1 := by
        have l1 : o.toNat < m.pl0.length := by omega
        have l2 : i.toNat < (m.pl0.set o.toNat 3).length := by rw [List.length_set]; omega
        have l3 : i.toNat < m.pl0.length := by omega
        rw [List.count_set l2, List.count_set l1]
        have v1 : m.pl0[o.toNat] = 1 := by
          have : m.pl0.getD o.toNat 0 = m.pl0[o.toNat] := by simp [List.getElem?_eq_getElem l1]
          rw [← this, b1, h6']
          rfl
        have v2 : (m.pl0.set o.toNat 3)[i.toNat] = 2 := by
          rw [List.getElem_set_ne hne]
          have : m.pl0.getD i.toNat 0 = m.pl0[i.toNat] := by simp [List.getElem?_eq_getElem l3]
          rw [← this, c1, h7']
          rfl
        have v3 : 1 ≤ m.pl0.count 1 := List.count_pos_iff.mpr (v1 ▸ List.getElem_mem l1)
        rw [v1, v2]
        simp
        omega
      have Z := S.setA Y (v := 0) fun _ => ⟨h, by omega⟩
      rw [show ((0 : Nat) : Int) = m.winner from w0.symm, show (0 : Nat) = x.won from h.symm] at Z
      have h8' : ¬ x.field.a.changes = 5 := h8
      have eM : addCh (setPl (setPl (takeW m 0) 0 o 3) 0 i 1) 0 = { m with pl0 := (m.pl0.set o.toNat 3).set i.toNat 1, ch0 := m.ch0 + 1, wi0 := if needsW m 0 = true then m.wi0 + 1 else m.wi0, iw0 := if needsW m 0 = true then true else m.iw0 } := by
        unfold addCh setPl takeW
        by_cases q : needsW m 0 = true
        · simp only [if_pos q]
          rfl
        · simp only [if_neg q]
          rfl
      rw [eM]
      refine ⟨?_, Z⟩
      show Kmt4.say (((4 - x.field.a.changes : Nat)) : Int) = Kmt4.say (5 - (m.ch0 + 1))
      congr 1
      omega
    · have b1 : m.pl1.getD o.toNat 0 = ((Kmt1.place x.field.b o.toNat : Nat) : Int) := o1
      have c1 : m.pl1.getD i.toNat 0 = ((Kmt1.place x.field.b i.toNat : Nat) : Int) := i1
      have L := S.b.ps.lp
      have hch := S.b.ch
      have hle := S.b.le
      have hwi := S.b.wi
      have hiw := S.b.iw
      have h6' : Kmt1.place x.field.b o.toNat = 1 := h6
      have h7' : Kmt1.place x.field.b i.toNat = 2 := h7
      have P1 := S.b.ps.setPlace (k := o.toNat) (z := 3) ho18 (by show Kmt1.place x.field.b o.toNat ≠ 4; omega) (by decide)
      have hne : ¬ o.toNat = i.toNat := fun q => by rw [q, h7'] at h6'; cases h6'
      have eP : (x.field.b.players.set o.toNat { x.field.b.players.getD o.toNat ⟨4, 0⟩ with place := 3 }).getD i.toNat ⟨4, 0⟩ = x.field.b.players.getD i.toNat ⟨4, 0⟩ := by simp [List.getElem?_set_ne hne]
      have P2 := P1.setPlace (k := i.toNat) (z := 1) hi18 (by rw [eP]; show Kmt1.place x.field.b i.toNat ≠ 4; omega) (by decide)
      have Y : TmSim (Kmt1.changed x.field.b o.toNat i.toNat (x.field.mode == 2)) ((m.pl1.set o.toNat 3).set i.toNat 1) m.bk1 (m.ch1 + 1) (if needsW m 1 = true then m.wi1 + 1 else m.wi1) (if needsW m 1 = true then true else m.iw1) m.sc1 := by
        refine ⟨P2, ?_, ?_, ?_, ?_, S.b.sc, S.b.sl⟩
        · show m.ch1 + 1 = ((x.field.b.changes + 1 : Nat) : Int)
          omega
        · show x.field.b.changes + 1 ≤ 5
          have : ¬ x.field.b.changes = 5 := h8
          omega
        · show (if needsW m 1 = true then m.wi1 + 1 else m.wi1) = (((if (x.field.mode == 2 || x.field.b.had) = true then x.field.b.windows else x.field.b.windows + 1) : Nat) : Int)
          rw [nw]
          show (if (if x.field.mode = 1 then !m.iw1 else false) = true then _ else _) = _
          rw [hiw]
          rcases hmode with q | q <;> rw [q] <;> cases x.field.b.had <;> simp <;> omega
        · show (if needsW m 1 = true then true else m.iw1) = (x.field.b.had || !(x.field.mode == 2))
          rw [nw]
          show (if (if x.field.mode = 1 then !m.iw1 else false) = true then true else m.iw1) = _
          rw [hiw]
          rcases hmode with q | q <;> rw [q] <;> cases x.field.b.had <;> rfl
      have hcnt : ((m.pl1.set o.toNat 3).set i.toNat 1).count 1 = m.pl1.count 1 := by
        have l1 : o.toNat < m.pl1.length := by omega
        have l2 : i.toNat < (m.pl1.set o.toNat 3).length := by rw [List.length_set]; omega
        have l3 : i.toNat < m.pl1.length := by omega
        rw [List.count_set l2, List.count_set l1]
        have v1 : m.pl1[o.toNat] = 1 := by
          have : m.pl1.getD o.toNat 0 = m.pl1[o.toNat] := by simp [List.getElem?_eq_getElem l1]
          rw [← this, b1, h6']
          rfl
        have v2 : (m.pl1.set o.toNat 3)[i.toNat] = 2 := by
          rw [List.getElem_set_ne hne]
          have : m.pl1.getD i.toNat 0 = m.pl1[i.toNat] := by simp [List.getElem?_eq_getElem l3]
          rw [← this, c1, h7']
          rfl
        have v3 : 1 ≤ m.pl1.count 1 := List.count_pos_iff.mpr (v1 ▸ List.getElem_mem l1)
        rw [v1, v2]
        simp
        omega
      have Z := S.setB Y (v := 0) fun _ => ⟨h, by omega⟩
      rw [show ((0 : Nat) : Int) = m.winner from w0.symm, show (0 : Nat) = x.won from h.symm] at Z
      have h8' : ¬ x.field.b.changes = 5 := h8
      have eM : addCh (setPl (setPl (takeW m 1) 1 o 3) 1 i 1) 1 = { m with pl1 := (m.pl1.set o.toNat 3).set i.toNat 1, ch1 := m.ch1 + 1, wi1 := if needsW m 1 = true then m.wi1 + 1 else m.wi1, iw1 := if needsW m 1 = true then true else m.iw1 } := by
        unfold addCh setPl takeW
        by_cases q : needsW m 1 = true
        · simp only [if_pos q]
          rfl
        · simp only [if_neg q]
          rfl
      rw [eM]
      refine ⟨?_, Z⟩
      show Kmt4.say (((4 - x.field.b.changes : Nat)) : Int) = Kmt4.say (5 - (m.ch1 + 1))
      congr 1
      omega
end MK

/-! The mirror against the specification: goals, kicks, what is asked; one call; the whole. -/
namespace MK

/-! ### who is on -/
theorem on_pon {m : M} {x : Kmt4.Match} (S : Sim m x) {t : Int} (ht : t = 0 ∨ t = 1) : pon m t = (Kmt1.on (Kmt1.team x.field t.toNat)).map fun k : Nat => (k : Int) := by
  unfold pon ponN Kmt1.on
  congr 1
  apply List.filter_congr
  intro k hk
  have hk' := List.mem_range.mp hk
  have h := (pl_at S (p := (k : Int)) ht (by omega) (by omega)).1
  rw [Int.toNat_natCast] at h
  rw [h]
  by_cases q : Kmt1.place (Kmt1.team x.field t.toNat) k = 1
  · rw [q]; rfl
  · rw [beq_eq_false_iff_ne.mpr q]
    exact decide_eq_false (by omega)
theorem bits_to (ps : List Int) : ∀ n : Nat, bitsTo ps n = ((Kmt1.bits ((List.range n).filter fun k => decide ((k : Int) ∈ ps)) : Nat) : Int)
  | 0 => rfl
  | n + 1 => by
    have ih := bits_to ps n
    rw [List.range_succ, List.filter_append]
    rw [show bitsTo ps (n + 1) = if (n : Int) ∈ ps then bitsTo ps n + 2 ^ n else bitsTo ps n from rfl]
    unfold Kmt1.bits at *
    by_cases q : (n : Int) ∈ ps
    · rw [if_pos q, ih, List.filter_cons_of_pos (by simpa using q), List.filter_nil, List.foldl_append]
      simp
    · rw [if_neg q, ih, List.filter_cons_of_neg (by simpa using q), List.filter_nil, List.append_nil]
theorem bits_on {t : Kmt1.Team} : bitsTo ((Kmt1.on t).map fun k : Nat => (k : Int)) 18 = ((Kmt1.bits (Kmt1.on t) : Nat) : Int) := by
  rw [bits_to]
  congr 2
  unfold Kmt1.on
  apply List.filter_congr
  intro k hk
  have hk' := List.mem_range.mp hk
  by_cases q : Kmt1.place t k = 1
  · rw [q]
    exact decide_eq_true (List.mem_map.mpr ⟨k, List.mem_filter.mpr ⟨hk, by rw [q]; rfl⟩, rfl⟩)
  · rw [beq_eq_false_iff_ne.mpr q]
    refine decide_eq_false fun z => ?_
    obtain ⟨j, hj, e⟩ := List.mem_map.mp z
    have e' : j = k := by omega
    subst e'
    exact q (by simpa using (List.mem_filter.mp hj).2)

/-! ### goal -/
theorem goal_spec {x : Kmt4.Match} (h : x.won = 0) {t k w : Nat} : Kmt4.changes x (.goal t k w) = if 1 < t ∨ 17 < k ∨ 1 < w then (x, Kmt4.say (-22)) else if x.field.mode ≠ 0 then (x, Kmt4.say (-16)) else
    if Kmt1.place (Kmt1.team x.field t) k ≠ 1 then (x, Kmt4.say (-61)) else
      if 1000000 ≤ (Kmt1.team x.field (if w = 0 then t else 1 - t)).score then (x, Kmt4.say (-28)) else
        ({ x with field := Kmt1.put x.field (if w = 0 then t else 1 - t) { Kmt1.team x.field (if w = 0 then t else 1 - t) with score := (Kmt1.team x.field (if w = 0 then t else 1 - t)).score + 1 } }, Kmt4.say (((Kmt1.team x.field (if w = 0 then t else 1 - t)).score + 1 : Nat) : Int)) := by
  unfold Kmt4.changes Kmt4.byField Kmt1.acts
  rw [if_neg (by simpa using h)]
  simp only [Option.map_some]
  by_cases h1 : 1 < t ∨ 17 < k ∨ 1 < w
  · simp only [if_pos h1]
  by_cases h2 : x.field.mode ≠ 0
  · simp only [if_neg h1, if_pos h2]
  by_cases h3 : Kmt1.place (Kmt1.team x.field t) k ≠ 1
  · simp only [if_neg h1, if_neg h2, if_pos h3]
    rfl
  by_cases h4 : 1000000 ≤ (Kmt1.team x.field (if w = 0 then t else 1 - t)).score
  · simp only [if_neg h1, if_neg h2, if_neg h3, if_pos h4]
    rfl
  simp only [if_neg h1, if_neg h2, if_neg h3, if_neg h4, Kmt1.say, neg_lt, if_false]
theorem Sim.scoreA {m : M} {x : Kmt4.Match} (S : Sim m x) (h : x.won = 0) (hs : x.field.a.score < 1000000) : Sim { m with sc0 := m.sc0 + 1 } { x with field := { x.field with a := { x.field.a with score := x.field.a.score + 1 } } } := by
  obtain ⟨n0, n1⟩ := S.cnt h
  have w0 := S.won
  rw [h] at w0
  have hsc := S.a.sc
  have Y : TmSim { x.field.a with score := x.field.a.score + 1 } m.pl0 m.bk0 m.ch0 m.wi0 m.iw0 (m.sc0 + 1) := ⟨S.a.ps, S.a.ch, S.a.le, S.a.wi, S.a.iw, by show m.sc0 + 1 = ((x.field.a.score + 1 : Nat) : Int); omega, by show x.field.a.score + 1 ≤ 1000000; omega⟩
  have Z := S.setA Y (v := 0) fun _ => ⟨h, n0⟩
  rw [show ((0 : Nat) : Int) = m.winner from w0.symm, show (0 : Nat) = x.won from h.symm] at Z
  exact Z
theorem Sim.scoreB {m : M} {x : Kmt4.Match} (S : Sim m x) (h : x.won = 0) (hs : x.field.b.score < 1000000) : Sim { m with sc1 := m.sc1 + 1 } { x with field := { x.field with b := { x.field.b with score := x.field.b.score + 1 } } } := by
  obtain ⟨n0, n1⟩ := S.cnt h
  have w0 := S.won
  rw [h] at w0
  have hsc := S.b.sc
  have Y : TmSim { x.field.b with score := x.field.b.score + 1 } m.pl1 m.bk1 m.ch1 m.wi1 m.iw1 (m.sc1 + 1) := ⟨S.b.ps, S.b.ch, S.b.le, S.b.wi, S.b.iw, by show m.sc1 + 1 = ((x.field.b.score + 1 : Nat) : Int); omega, by show x.field.b.score + 1 ≤ 1000000; omega⟩
  have Z := S.setB Y (v := 0) fun _ => ⟨h, n1⟩
  rw [show ((0 : Nat) : Int) = m.winner from w0.symm, show (0 : Nat) = x.won from h.symm] at Z
  exact Z
theorem goal_sim {m : M} {x : Kmt4.Match} (S : Sim m x) (h : x.won = 0) (t p o : Int) (ht : 0 ≤ t) (hp : 0 ≤ p) (ho : 0 ≤ o) :
    (Kmt4.changes x (.goal t.toNat p.toNat o.toNat)).2 = Kmt4.say (goalF m t p o).1 ∧ Sim (goalF m t p o).2 (Kmt4.changes x (.goal t.toNat p.toNat o.toNat)).1 := by
  rw [goal_spec h]
  unfold goalF
  by_cases h1 : 1 < t
  · simp only [if_pos h1, if_pos (show 1 < t.toNat ∨ 17 < p.toNat ∨ 1 < o.toNat from .inl (by omega))]
    exact ⟨trivial, S⟩
  by_cases h2 : 18 ≤ p
  · simp only [if_neg h1, if_pos h2, if_pos (show 1 < t.toNat ∨ 17 < p.toNat ∨ 1 < o.toNat from .inr (.inl (by omega)))]
    exact ⟨trivial, S⟩
  by_cases h3 : 1 < o
  · simp only [if_neg h1, if_neg h2, if_pos h3, if_pos (show 1 < t.toNat ∨ 17 < p.toNat ∨ 1 < o.toNat from .inr (.inr (by omega)))]
    exact ⟨trivial, S⟩
  simp only [if_neg h1, if_neg h2, if_neg h3, if_neg (show ¬ (1 < t.toNat ∨ 17 < p.toNat ∨ 1 < o.toNat) by omega)]
  have hpl := S.play
  by_cases h4 : x.field.mode ≠ 0
  · have hst : standing m = true := by
      unfold standing
      rw [hpl, decide_eq_false (by omega)]
      rfl
    simp only [if_pos h4, if_pos hst]
    exact ⟨trivial, S⟩
  have hst : ¬ standing m = true := by
    unfold standing
    rw [hpl, decide_eq_true (by omega)]
    simp
  simp only [if_neg h4, if_neg hst]
  have ht' : t = 0 ∨ t = 1 := by omega
  obtain ⟨a1, _⟩ := pl_at S ht' hp (by omega)
  by_cases h5 : Kmt1.place (Kmt1.team x.field t.toNat) p.toNat ≠ 1
  · simp only [if_pos h5, if_neg (show ¬ (pl m t).getD p.toNat 0 = 1 by rw [a1]; omega)]
    exact ⟨trivial, S⟩
  have h5' : (pl m t).getD p.toNat 0 = 1 := by rw [a1]; omega
  simp only [if_neg h5, if_pos h5']
  have eu : ∀ u : Int, (u = 0 ∨ u = 1) → (if o.toNat = 0 then t.toNat else 1 - t.toNat) = u.toNat → (if o = 1 then 1 - t else t) = u →
      (if 1000000 ≤ (Kmt1.team x.field (if o.toNat = 0 then t.toNat else 1 - t.toNat)).score then (x, Kmt4.say (-28)) else
        ({ x with field := Kmt1.put x.field (if o.toNat = 0 then t.toNat else 1 - t.toNat) { Kmt1.team x.field (if o.toNat = 0 then t.toNat else 1 - t.toNat) with score := (Kmt1.team x.field (if o.toNat = 0 then t.toNat else 1 - t.toNat)).score + 1 } }, Kmt4.say (((Kmt1.team x.field (if o.toNat = 0 then t.toNat else 1 - t.toNat)).score + 1 : Nat) : Int))).2 =
        Kmt4.say (if scs m (if o = 1 then 1 - t else t) = 1000000 then (-28, m) else (scs m (if o = 1 then 1 - t else t) + 1, addSc m (if o = 1 then 1 - t else t))).1 ∧
      Sim (if scs m (if o = 1 then 1 - t else t) = 1000000 then ((-28 : Int), m) else (scs m (if o = 1 then 1 - t else t) + 1, addSc m (if o = 1 then 1 - t else t))).2
        (if 1000000 ≤ (Kmt1.team x.field (if o.toNat = 0 then t.toNat else 1 - t.toNat)).score then (x, Kmt4.say (-28)) else
        ({ x with field := Kmt1.put x.field (if o.toNat = 0 then t.toNat else 1 - t.toNat) { Kmt1.team x.field (if o.toNat = 0 then t.toNat else 1 - t.toNat) with score := (Kmt1.team x.field (if o.toNat = 0 then t.toNat else 1 - t.toNat)).score + 1 } }, Kmt4.say (((Kmt1.team x.field (if o.toNat = 0 then t.toNat else 1 - t.toNat)).score + 1 : Nat) : Int))).1 := by
    intro u hu e1 e2
    rw [e1, e2]
    rcases hu with rfl | rfl
    · have hs := S.a.sc
      have hl := S.a.sl
      have et : (Kmt1.team x.field (0 : Int).toNat) = x.field.a := rfl
      have es : scs m 0 = m.sc0 := rfl
      rw [et, es]
      by_cases q : m.sc0 = 1000000
      · rw [if_pos q, if_pos (show 1000000 ≤ x.field.a.score by omega)]
        exact ⟨rfl, S⟩
      · rw [if_neg q, if_neg (show ¬ 1000000 ≤ x.field.a.score by omega)]
        refine ⟨?_, S.scoreA h (by omega)⟩
        show Kmt4.say ((x.field.a.score + 1 : Nat) : Int) = Kmt4.say (m.sc0 + 1)
        congr 1
        omega
    · have hs := S.b.sc
      have hl := S.b.sl
      have et : (Kmt1.team x.field (1 : Int).toNat) = x.field.b := rfl
      have es : scs m 1 = m.sc1 := rfl
      rw [et, es]
      by_cases q : m.sc1 = 1000000
      · rw [if_pos q, if_pos (show 1000000 ≤ x.field.b.score by omega)]
        exact ⟨rfl, S⟩
      · rw [if_neg q, if_neg (show ¬ 1000000 ≤ x.field.b.score by omega)]
        refine ⟨?_, S.scoreB h (by omega)⟩
        show Kmt4.say ((x.field.b.score + 1 : Nat) : Int) = Kmt4.say (m.sc1 + 1)
        congr 1
        omega
  have ho' : o = 0 ∨ o = 1 := by omega
  rcases ht' with rfl | rfl <;> rcases ho' with rfl | rfl
  · exact eu 0 (.inl rfl) rfl rfl
  · exact eu 1 (.inr rfl) rfl rfl
  · exact eu 1 (.inr rfl) rfl rfl
  · exact eu 0 (.inl rfl) rfl rfl

/-! ### minute -/
theorem earl_eq {m : M} {x : Kmt4.Match} (S : Sim m x) (h : x.clock.played < Kmt2.most x.clock) : earl m = ((Kmt2.earlier x.clock x.clock.played : Nat) : Int) := by
  unfold earl Kmt2.earlier
  have h1 := S.played
  rw [S.lens, h1, Int.toNat_natCast]
  unfold Kmt2.most at h
  unfold lensOf
  by_cases q : x.clock.extra = 0
  · rw [if_pos q] at h
    rw [if_pos (by omega)]
    have : x.clock.played = 0 ∨ x.clock.played = 1 := by omega
    rcases this with e | e
    · rw [e]; rfl
    · rw [e]
      simp [Kmt2.length, List.range_succ]
  · rw [if_neg q] at h
    rw [if_neg (by omega)]
    have : x.clock.played = 0 ∨ x.clock.played = 1 ∨ x.clock.played = 2 ∨ x.clock.played = 3 := by omega
    rcases this with e | e | e | e
    · rw [e]; rfl
    · rw [e]
      simp [Kmt2.length, List.range_succ]
    · rw [e]
      simp [Kmt2.length, List.range_succ]
    · rw [e]
      simp [Kmt2.length, List.range_succ]
      omega
theorem minute_eq {m : M} {x : Kmt4.Match} (S : Sim m x) : minC m = if x.clock.runs = false then [-11] else [0, ((Kmt2.minute x.clock).1 : Int), ((Kmt2.minute x.clock).2 : Int)] := by
  unfold minC
  by_cases hr : x.clock.runs = false
  · have hr' : ¬ m.running = true := by rw [S.run, hr]; simp
    rw [if_pos hr, if_neg hr']
  have hr1 : x.clock.runs = true := by simpa using hr
  rw [if_neg hr, if_pos (S.run.trans hr1)]
  obtain ⟨g1, g2, g3, g4, g5, g6⟩ := S.gone hr1
  have hc := clen_eq S g5
  have he := earl_eq S g5
  unfold Kmt2.minute
  simp only
  by_cases q : x.clock.gone < Kmt2.length x.clock x.clock.played
  · rw [if_pos (show m.gone - clen m < 0 by omega), if_pos q, he, g1]
    simp
  · rw [if_neg (show ¬ m.gone - clen m < 0 by omega), if_neg q, he, hc, g1]
    have e1 : ((x.clock.gone : Int) - (Kmt2.length x.clock x.clock.played : Int)) = ((x.clock.gone - Kmt2.length x.clock x.clock.played : Nat) : Int) := by omega
    have e2 : ((Kmt2.earlier x.clock x.clock.played : Nat) : Int) + ((Kmt2.length x.clock x.clock.played : Nat) : Int) + 60 - 1 = ((Kmt2.earlier x.clock x.clock.played + Kmt2.length x.clock x.clock.played + 59 : Nat) : Int) := by omega
    rw [e1, e2]
    simp

/-! ### kicks -/
structure KS (q : KM) (f : Kmt3.Kicks) (s1 s2 : List Nat) : Prop where
  first : f.first ≤ 1
  lo : f.had2 ≤ f.had
  hi : f.had ≤ f.had2 + 1
  turn : q.turn = if f.had ≤ f.had2 then (f.first : Int) else 1 - (f.first : Int)
  tk : tks q f.first = (f.had : Int)
  tk2 : tks q (1 - f.first) = (f.had2 : Int)
  hit : his q f.first = (f.in_ : Int)
  hit2 : his q (1 - f.first) = (f.in2 : Int)
  sum : f.had + f.had2 ≤ 1000000
  r0 : ∀ p : Nat, (p : Int) ∈ q.ro0 ↔ p ∈ s1
  r1 : ∀ p : Nat, (p : Int) ∈ q.ro1 ↔ p ∈ s2
  l0 : (q.ro0.length : Int) ≤ q.tk0
  l1 : (q.ro1.length : Int) ≤ q.tk1
def KSim (k : Option KM) (x : Kmt4.Match) : Prop := match k with
  | none => x.kicks = none ∧ x.shot = [] ∧ x.shot2 = []
  | some q => ∃ f, x.kicks = some f ∧ KS q f x.shot x.shot2 ∧ (x.won = 0 → Kmt3.decided f = 0)
theorem KS.both {q : KM} {f : Kmt3.Kicks} {s1 s2 : List Nat} (S : KS q f s1 s2) :
    (f.first = 0 ∧ q.tk0 = f.had ∧ q.tk1 = f.had2 ∧ q.hi0 = f.in_ ∧ q.hi1 = f.in2) ∨ (f.first = 1 ∧ q.tk1 = f.had ∧ q.tk0 = f.had2 ∧ q.hi1 = f.in_ ∧ q.hi0 = f.in2) := by
  have h := S.first
  have h1 := S.tk
  have h2 := S.tk2
  have h3 := S.hit
  have h4 := S.hit2
  have : f.first = 0 ∨ f.first = 1 := by omega
  rcases this with e | e
  · rw [e] at h1 h2 h3 h4
    exact .inl ⟨e, h1, h2, h3, h4⟩
  · rw [e] at h1 h2 h3 h4
    exact .inr ⟨e, h1, h2, h3, h4⟩
theorem KS.wf {q : KM} {f : Kmt3.Kicks} {s1 s2 : List Nat} (S : KS q f s1 s2) : WfK q := by
  refine ⟨?_, S.l0, S.l1, ?_⟩
  · have h := S.first
    have ht := S.turn
    split at ht <;> omega
  · have h := S.sum
    rcases S.both with ⟨_, h1, h2, _⟩ | ⟨_, h1, h2, _⟩ <;> omega
theorem KSim.wf {k : Option KM} {x : Kmt4.Match} (S : KSim k x) : WfO k := fun q e => by
  subst e
  obtain ⟨f, _, h, _⟩ := S
  exact h.wf
theorem KSim.keep {k : Option KM} {x y : Kmt4.Match} (S : KSim k x) (h : x.won = 0) (e : y.kicks = x.kicks ∧ y.shot = x.shot ∧ y.shot2 = x.shot2) : KSim k y := by
  obtain ⟨e1, e2, e3⟩ := e
  cases k with
  | none =>
    obtain ⟨h1, h2, h3⟩ := S
    exact ⟨e1.trans h1, e2.trans h2, e3.trans h3⟩
  | some q =>
    obtain ⟨f, h1, h2, h3⟩ := S
    exact ⟨f, e1.trans h1, by rw [e2, e3]; exact h2, fun _ => h3 h⟩
/-- of the others kicks stay -/
theorem ended_k {x : Kmt4.Match} : (Kmt4.ended x).kicks = x.kicks ∧ (Kmt4.ended x).shot = x.shot ∧ (Kmt4.ended x).shot2 = x.shot2 := by
  unfold Kmt4.ended
  repeat' split
  all_goals exact ⟨rfl, rfl, rfl⟩
theorem counted_k {x : Kmt4.Match} : (Kmt4.counted x).kicks = x.kicks ∧ (Kmt4.counted x).shot = x.shot ∧ (Kmt4.counted x).shot2 = x.shot2 := by
  unfold Kmt4.counted
  repeat' split
  all_goals exact ⟨rfl, rfl, rfl⟩
theorem kick_k {x : Kmt4.Match} (h : x.won = 0) : (Kmt4.changes x .kick).1.kicks = x.kicks ∧ (Kmt4.changes x .kick).1.shot = x.shot ∧ (Kmt4.changes x .kick).1.shot2 = x.shot2 := by
  rw [kick_spec h]
  repeat' split
  all_goals exact ⟨rfl, rfl, rfl⟩
theorem tick_k {x : Kmt4.Match} (h : x.won = 0) {n : Nat} : (Kmt4.changes x (.tick n)).1.kicks = x.kicks ∧ (Kmt4.changes x (.tick n)).1.shot = x.shot ∧ (Kmt4.changes x (.tick n)).1.shot2 = x.shot2 := by
  rw [tick_spec h]
  by_cases h1 : n < 1 ∨ 3600 < n
  · rw [if_pos h1]; exact ⟨rfl, rfl, rfl⟩
  rw [if_neg h1]
  by_cases h2 : x.clock.runs = false
  · rw [if_pos h2]; exact ⟨rfl, rfl, rfl⟩
  rw [if_neg h2]
  by_cases h3 : 1000000 < x.clock.gone + n
  · rw [if_pos h3]; exact ⟨rfl, rfl, rfl⟩
  rw [if_neg h3]; exact ⟨rfl, rfl, rfl⟩
theorem stop_k {x : Kmt4.Match} (h : x.won = 0) {n : Nat} : (Kmt4.changes x (.halt_ n)).1.kicks = x.kicks ∧ (Kmt4.changes x (.halt_ n)).1.shot = x.shot ∧ (Kmt4.changes x (.halt_ n)).1.shot2 = x.shot2 := by
  rw [stop_spec h]
  repeat' split
  all_goals exact ⟨rfl, rfl, rfl⟩
theorem whistle_k {x : Kmt4.Match} (h : x.won = 0) : (Kmt4.changes x .whistle).1.kicks = x.kicks ∧ (Kmt4.changes x .whistle).1.shot = x.shot ∧ (Kmt4.changes x .whistle).1.shot2 = x.shot2 := by
  rw [whistle_spec h]
  by_cases h1 : x.clock.runs = false
  · rw [if_pos h1]; exact ⟨rfl, rfl, rfl⟩
  rw [if_neg h1]
  by_cases h2 : Kmt2.mayEnd x.clock = false
  · rw [if_pos h2]; exact ⟨rfl, rfl, rfl⟩
  rw [if_neg h2]
  exact ended_k
theorem card_k {x : Kmt4.Match} (h : x.won = 0) {t k c : Nat} : (Kmt4.changes x (.card t k c)).1.kicks = x.kicks ∧ (Kmt4.changes x (.card t k c)).1.shot = x.shot ∧ (Kmt4.changes x (.card t k c)).1.shot2 = x.shot2 := by
  rw [card_spec h]
  by_cases h1 : 1 < t ∨ 17 < k ∨ 1 < c
  · rw [if_pos h1]; exact ⟨rfl, rfl, rfl⟩
  rw [if_neg h1]
  by_cases h2 : Kmt1.place (Kmt1.team x.field t) k = 4
  · rw [if_pos h2]; exact ⟨rfl, rfl, rfl⟩
  rw [if_neg h2]
  exact counted_k
theorem change_k {x : Kmt4.Match} (h : x.won = 0) {t o i : Nat} : (Kmt4.changes x (.change t o i)).1.kicks = x.kicks ∧ (Kmt4.changes x (.change t o i)).1.shot = x.shot ∧ (Kmt4.changes x (.change t o i)).1.shot2 = x.shot2 := by
  rw [change_spec h]
  repeat' split
  all_goals exact ⟨rfl, rfl, rfl⟩
theorem goal_k {x : Kmt4.Match} (h : x.won = 0) {t o i : Nat} : (Kmt4.changes x (.goal t o i)).1.kicks = x.kicks ∧ (Kmt4.changes x (.goal t o i)).1.shot = x.shot ∧ (Kmt4.changes x (.goal t o i)).1.shot2 = x.shot2 := by
  rw [goal_spec h]
  repeat' split
  all_goals exact ⟨rfl, rfl, rfl⟩
/-! first -/
theorem Sim.kick {m : M} {x : Kmt4.Match} (S : Sim m x) {f : Option Kmt3.Kicks} {s1 s2 : List Nat} : Sim m { x with kicks := f, shot := s1, shot2 := s2 } :=
  { lens := S.lens, played := S.played, run := S.run, gone := S.gone, rest := S.rest, play := S.play, most := S.most, a := S.a, b := S.b, kicks := S.kicks, won := S.won, full := S.full }
theorem first_sim {m : M} {k : Option KM} {x : Kmt4.Match} (S : Sim m x) (T : KSim k x) (h : x.won = 0) (t : Int) (ht : 0 ≤ t) :
    (Kmt4.changes x (.first t.toNat)).2 = Kmt4.say (firstG m k t).1 ∧ Sim (firstG m k t).2.1 (Kmt4.changes x (.first t.toNat)).1 ∧ KSim (firstG m k t).2.2 (Kmt4.changes x (.first t.toNat)).1 := by
  unfold Kmt4.changes firstG
  rw [if_neg (by simpa using h)]
  simp only
  have hk := S.kicks
  by_cases h1 : 1 < t
  · simp only [if_pos h1, if_pos (show 1 < t.toNat by omega)]
    exact ⟨trivial, S, T⟩
  simp only [if_neg h1, if_neg (show ¬ 1 < t.toNat by omega)]
  by_cases h2 : x.toKicks = false
  · have h2' : ¬ m.at_kicks = true := by rw [hk, h2]; simp
    simp only [if_pos h2, if_neg h2']
    exact ⟨trivial, S, T⟩
  have h2' : m.at_kicks = true := by rw [hk]; simpa using h2
  simp only [if_neg h2, if_pos h2']
  cases k with
  | some q =>
    obtain ⟨f, h3, h4, h5⟩ := T
    simp only [if_pos (show x.kicks.isSome = true by rw [h3]; rfl)]
    exact ⟨trivial, S, ⟨f, h3, h4, h5⟩⟩
  | none =>
    obtain ⟨h3, h4, h5⟩ := T
    simp only [if_neg (show ¬ x.kicks.isSome = true by rw [h3]; simp)]
    refine ⟨trivial, S.kick (s1 := x.shot) (s2 := x.shot2), ⟨Kmt3.begun t.toNat, rfl, ?_, fun _ => rfl⟩⟩
    have ht' : t = 0 ∨ t = 1 := by omega
    show KS (KM0 t) (Kmt3.begun t.toNat) x.shot x.shot2
    rw [h4, h5]
    rcases ht' with rfl | rfl
    · exact ⟨by decide, by decide, by decide, rfl, rfl, rfl, rfl, rfl, by decide, fun p => by simp [KM0], fun p => by simp [KM0], by decide, by decide⟩
    · exact ⟨by decide, by decide, by decide, rfl, rfl, rfl, rfl, rfl, by decide, fun p => by simp [KM0], fun p => by simp [KM0], by decide, by decide⟩
end MK

/-! The mirror against the specification: shoot; one call; the whole. -/
namespace MK

theorem takeK_0 {q : KM} {p s : Int} {ps : List Int} (e : q.turn = 0) : takeK q p s ps = { turn := 1, tk0 := q.tk0 + 1, tk1 := q.tk1, hi0 := q.hi0 + s, hi1 := q.hi1, ro0 := (if roundDone q ps = true then [] else q.ro0) ++ [p], ro1 := q.ro1 } := by
  unfold takeK pushK clearR
  rw [e]
  cases roundDone q ps <;> rfl
theorem takeK_1 {q : KM} {p s : Int} {ps : List Int} (e : q.turn = 1) : takeK q p s ps = { turn := 0, tk0 := q.tk0, tk1 := q.tk1 + 1, hi0 := q.hi0, hi1 := q.hi1 + s, ro0 := q.ro0, ro1 := (if roundDone q ps = true then [] else q.ro1) ++ [p] } := by
  unfold takeK pushK clearR
  rw [e]
  cases roundDone q ps <;> rfl
theorem left_eq {q : KM} {a b : Nat} (h0 : q.tk0 = (a : Int)) (h1 : q.tk1 = (b : Int)) (ha : a ≤ b + 1) (hb : b ≤ a + 1) : leftK q 0 = ((Kmt3.left a b : Nat) : Int) ∧ leftK q 1 = ((Kmt3.left b a : Nat) : Int) := by
  unfold leftK Kmt3.left
  have e0 : tks q 0 = (a : Int) := h0
  have e1 : tks q 1 = (b : Int) := h1
  rw [show (1 : Int) - 0 = 1 from rfl, show (1 : Int) - 1 = 0 from rfl, e0, e1, h0, h1]
  constructor
  · by_cases q1 : a < 5 ∨ b < 5
    · rw [if_pos q1, if_pos (by split <;> omega)]
      omega
    · rw [if_neg q1, if_neg (by split <;> omega)]
      split <;> split <;> omega
  · by_cases q1 : b < 5 ∨ a < 5
    · rw [if_pos q1, if_pos (by split <;> omega)]
      omega
    · rw [if_neg q1, if_neg (by split <;> omega)]
      split <;> split <;> omega
theorem KS.decided {q : KM} {f : Kmt3.Kicks} {s1 s2 : List Nat} (S : KS q f s1 s2) : decidedK q = ((Kmt3.won f : Nat) : Int) := by
  have lo := S.lo
  have hi := S.hi
  unfold decidedK Kmt3.won Kmt3.decided
  rcases S.both with ⟨e, h1, h2, h3, h4⟩ | ⟨e, h1, h2, h3, h4⟩
  · obtain ⟨l0, l1⟩ := left_eq h1 h2 (by omega) (by omega)
    rw [l0, l1, h3, h4, e]
    by_cases c1 : f.in2 + Kmt3.left f.had2 f.had < f.in_
    · rw [if_pos (by omega), if_pos c1]; rfl
    · rw [if_neg (by omega), if_neg c1]
      by_cases c2 : f.in_ + Kmt3.left f.had f.had2 < f.in2
      · rw [if_pos (by omega), if_pos c2]; rfl
      · rw [if_neg (by omega), if_neg c2]; rfl
  · obtain ⟨l0, l1⟩ := left_eq h2 h1 (by omega) (by omega)
    rw [l0, l1, h3, h4, e]
    by_cases c1 : f.in2 + Kmt3.left f.had2 f.had < f.in_
    · rw [if_neg (by omega), if_pos (by omega), if_pos c1]; rfl
    · rw [if_neg c1]
      by_cases c2 : f.in_ + Kmt3.left f.had f.had2 < f.in2
      · rw [if_pos (by omega), if_pos c2]; rfl
      · rw [if_neg (by omega), if_neg (by omega), if_neg c2]; rfl
theorem won_dec {f : Kmt3.Kicks} (h : f.first ≤ 1) : Kmt3.won f = 0 → Kmt3.decided f = 0 := by
  unfold Kmt3.won
  by_cases c : Kmt3.decided f = 0
  · exact fun _ => c
  · rw [if_neg c]
    split <;> omega
theorem mem_push {ro : List Int} {sh : List Nat} {d : Bool} {p : Int} (hp : 0 ≤ p) (h : ∀ j : Nat, (j : Int) ∈ ro ↔ j ∈ sh) (j : Nat) : (j : Int) ∈ (if d = true then [] else ro) ++ [p] ↔ j ∈ (if d = true then [p.toNat] else p.toNat :: sh) := by
  have e : (j : Int) = p ↔ j = p.toNat := by omega
  cases d with
  | true => simp [e]
  | false => simp [e, h j, or_comm]
theorem len_push {ro : List Int} {d : Bool} {p n : Int} (h : (ro.length : Int) ≤ n) : (((if d = true then [] else ro) ++ [p]).length : Int) ≤ n + 1 := by
  cases d with
  | true => simp; omega
  | false => simp; omega
/-- the kick itself -/
theorem KS.kick {q : KM} {f : Kmt3.Kicks} {x : Kmt4.Match} (S : KS q f x.shot x.shot2) (hs : f.had + f.had2 < 1000000) {p s : Int} (hp : 0 ≤ p) (h0 : 0 ≤ s) {ps : List Int} {t : Int} (et : q.turn = t) (hd : roundDone q ps = Kmt4.shotAll x t.toNat) :
    KS (takeK q p s ps) (Kmt3.kick f s.toNat) (Kmt4.withShot x t.toNat p.toNat).shot (Kmt4.withShot x t.toNat p.toNat).shot2 := by
  have lo := S.lo
  have hi := S.hi
  have l0 := S.l0
  have l1 := S.l1
  have tn := S.turn
  unfold Kmt3.kick Kmt3.turn Kmt4.withShot
  rw [← hd]
  rcases S.both with ⟨e, h1, h2, h3, h4⟩ | ⟨e, h1, h2, h3, h4⟩ <;> by_cases c : f.had ≤ f.had2
  · rw [if_pos c, e] at tn
    have tn : q.turn = 0 := tn
    obtain rfl : t = 0 := et.symm.trans tn
    rw [takeK_0 tn, if_pos (decide_eq_true c)]
    exact ⟨S.first, by show f.had2 ≤ f.had + 1; omega, by show f.had + 1 ≤ f.had2 + 1; omega, by show (1 : Int) = if f.had + 1 ≤ f.had2 then (f.first : Int) else 1 - (f.first : Int); rw [if_neg (by omega), e]; rfl,
      by rw [show ({ f with had := f.had + 1, in_ := f.in_ + s.toNat } : Kmt3.Kicks).first = 0 from e]; show q.tk0 + 1 = ((f.had + 1 : Nat) : Int); omega,
      by rw [show ({ f with had := f.had + 1, in_ := f.in_ + s.toNat } : Kmt3.Kicks).first = 0 from e]; exact h2,
      by rw [show ({ f with had := f.had + 1, in_ := f.in_ + s.toNat } : Kmt3.Kicks).first = 0 from e]; show q.hi0 + s = ((f.in_ + s.toNat : Nat) : Int); omega,
      by rw [show ({ f with had := f.had + 1, in_ := f.in_ + s.toNat } : Kmt3.Kicks).first = 0 from e]; exact h4,
      by show f.had + 1 + f.had2 ≤ 1000000; omega, mem_push hp S.r0, S.r1, len_push l0, l1⟩
  · rw [if_neg c, e] at tn
    have tn : q.turn = 1 := tn
    obtain rfl : t = 1 := et.symm.trans tn
    rw [takeK_1 tn, if_neg (show ¬ decide (f.had ≤ f.had2) = true by rw [decide_eq_false c]; simp)]
    exact ⟨S.first, by show f.had2 + 1 ≤ f.had; omega, by show f.had ≤ f.had2 + 1 + 1; omega, by show (0 : Int) = if f.had ≤ f.had2 + 1 then (f.first : Int) else 1 - (f.first : Int); rw [if_pos (by omega), e]; rfl,
      by rw [show ({ f with had2 := f.had2 + 1, in2 := f.in2 + s.toNat } : Kmt3.Kicks).first = 0 from e]; exact h1,
      by rw [show ({ f with had2 := f.had2 + 1, in2 := f.in2 + s.toNat } : Kmt3.Kicks).first = 0 from e]; show q.tk1 + 1 = ((f.had2 + 1 : Nat) : Int); omega,
      by rw [show ({ f with had2 := f.had2 + 1, in2 := f.in2 + s.toNat } : Kmt3.Kicks).first = 0 from e]; exact h3,
      by rw [show ({ f with had2 := f.had2 + 1, in2 := f.in2 + s.toNat } : Kmt3.Kicks).first = 0 from e]; show q.hi1 + s = ((f.in2 + s.toNat : Nat) : Int); omega,
      by show f.had + (f.had2 + 1) ≤ 1000000; omega, S.r0, mem_push hp S.r1, l0, len_push l1⟩
  · rw [if_pos c, e] at tn
    have tn : q.turn = 1 := tn
    obtain rfl : t = 1 := et.symm.trans tn
    rw [takeK_1 tn, if_pos (decide_eq_true c)]
    exact ⟨S.first, by show f.had2 ≤ f.had + 1; omega, by show f.had + 1 ≤ f.had2 + 1; omega, by show (0 : Int) = if f.had + 1 ≤ f.had2 then (f.first : Int) else 1 - (f.first : Int); rw [if_neg (by omega), e]; rfl,
      by rw [show ({ f with had := f.had + 1, in_ := f.in_ + s.toNat } : Kmt3.Kicks).first = 1 from e]; show q.tk1 + 1 = ((f.had + 1 : Nat) : Int); omega,
      by rw [show ({ f with had := f.had + 1, in_ := f.in_ + s.toNat } : Kmt3.Kicks).first = 1 from e]; exact h2,
      by rw [show ({ f with had := f.had + 1, in_ := f.in_ + s.toNat } : Kmt3.Kicks).first = 1 from e]; show q.hi1 + s = ((f.in_ + s.toNat : Nat) : Int); omega,
      by rw [show ({ f with had := f.had + 1, in_ := f.in_ + s.toNat } : Kmt3.Kicks).first = 1 from e]; exact h4,
      by show f.had + 1 + f.had2 ≤ 1000000; omega, S.r0, mem_push hp S.r1, l0, len_push l1⟩
  · rw [if_neg c, e] at tn
    have tn : q.turn = 0 := tn
    obtain rfl : t = 0 := et.symm.trans tn
    rw [takeK_0 tn, if_neg (show ¬ decide (f.had ≤ f.had2) = true by rw [decide_eq_false c]; simp)]
    exact ⟨S.first, by show f.had2 + 1 ≤ f.had; omega, by show f.had ≤ f.had2 + 1 + 1; omega, by show (1 : Int) = if f.had ≤ f.had2 + 1 then (f.first : Int) else 1 - (f.first : Int); rw [if_pos (by omega), e]; rfl,
      by rw [show ({ f with had2 := f.had2 + 1, in2 := f.in2 + s.toNat } : Kmt3.Kicks).first = 1 from e]; exact h1,
      by rw [show ({ f with had2 := f.had2 + 1, in2 := f.in2 + s.toNat } : Kmt3.Kicks).first = 1 from e]; show q.tk0 + 1 = ((f.had2 + 1 : Nat) : Int); omega,
      by rw [show ({ f with had2 := f.had2 + 1, in2 := f.in2 + s.toNat } : Kmt3.Kicks).first = 1 from e]; exact h3,
      by rw [show ({ f with had2 := f.had2 + 1, in2 := f.in2 + s.toNat } : Kmt3.Kicks).first = 1 from e]; show q.hi0 + s = ((f.in2 + s.toNat : Nat) : Int); omega,
      by show f.had + (f.had2 + 1) ≤ 1000000; omega, mem_push hp S.r0, S.r1, len_push l0, l1⟩
theorem shots {q : KM} {f : Kmt3.Kicks} {x : Kmt4.Match} (S : KS q f x.shot x.shot2) {t : Int} (ht : t = 0 ∨ t = 1) (j : Nat) : (j : Int) ∈ rnd q t ↔ j ∈ Kmt4.shotOf x t.toNat := by
  rcases ht with rfl | rfl
  · exact S.r0 j
  · exact S.r1 j
theorem done_eq {q : KM} {f : Kmt3.Kicks} {m : M} {x : Kmt4.Match} (D : Sim m x) (S : KS q f x.shot x.shot2) {t : Int} (ht : t = 0 ∨ t = 1) (et : q.turn = t) : roundDone q (pon m t) = Kmt4.shotAll x t.toNat := by
  unfold roundDone Kmt4.shotAll
  rw [on_pon D ht, et, List.map_map, List.all_map]
  congr 1
  funext k
  show decide ((k : Int) ∈ rnd q t) = (Kmt4.shotOf x t.toNat).contains k
  rw [Bool.eq_iff_iff, decide_eq_true_iff, List.contains_iff_mem, shots S ht k]
theorem Sim.winK {m : M} {x : Kmt4.Match} (S : Sim m x) (h : x.won = 0) {f : Option Kmt3.Kicks} {s1 s2 : List Nat} {v : Nat} : Sim { m with winner := (v : Int) } { x with kicks := f, shot := s1, shot2 := s2, won := v } :=
  { lens := S.lens, played := S.played, run := S.run, gone := S.gone, rest := S.rest, play := S.play, most := S.most, a := S.a, b := S.b, kicks := S.kicks, won := rfl, full := fun _ => S.full h }
theorem shot_id {x : Kmt4.Match} {t k : Nat} : Kmt4.withShot x t k = { x with shot := (Kmt4.withShot x t k).shot, shot2 := (Kmt4.withShot x t k).shot2 } := by
  unfold Kmt4.withShot
  simp only
  split <;> rfl
theorem shoot_sim {m : M} {k : Option KM} {x : Kmt4.Match} (S : Sim m x) (T : KSim k x) (h : x.won = 0) (t p s : Int) (ht : 0 ≤ t) (hp : 0 ≤ p) (hs : 0 ≤ s) :
    (Kmt4.changes x (.shoot t.toNat p.toNat s.toNat)).2 = Kmt4.say (shootG m k t p s).1 ∧ Sim (shootG m k t p s).2.1 (Kmt4.changes x (.shoot t.toNat p.toNat s.toNat)).1 ∧ KSim (shootG m k t p s).2.2 (Kmt4.changes x (.shoot t.toNat p.toNat s.toNat)).1 := by
  have e0 : Kmt4.changes x (.shoot t.toNat p.toNat s.toNat) = Kmt4.shoots x t.toNat p.toNat s.toNat := by
    unfold Kmt4.changes
    rw [if_neg (by simpa using h)]
  rw [e0]
  unfold Kmt4.shoots
  have low : ∀ z : Int, z < 0 → shootR m k t p s = z → ∀ y : Kmt4.Match × Kmt4.Ans, y = (x, Kmt4.say z) → (y.2 = Kmt4.say (shootG m k t p s).1 ∧ Sim (shootG m k t p s).2.1 y.1 ∧ KSim (shootG m k t p s).2.2 y.1) := fun z hz e y ey => by
    unfold shootG
    rw [e, if_pos hz, ey]
    exact ⟨rfl, S, T⟩
  by_cases h1 : 1 < t
  · rw [if_pos (show 1 < t.toNat ∨ 17 < p.toNat ∨ 1 < s.toNat from .inl (by omega))]
    exact low (-22) (by decide) (by unfold shootR; rw [if_pos h1]) _ rfl
  by_cases h2 : 18 ≤ p
  · rw [if_pos (show 1 < t.toNat ∨ 17 < p.toNat ∨ 1 < s.toNat from .inr (.inl (by omega)))]
    exact low (-22) (by decide) (by unfold shootR; rw [if_neg h1, if_pos h2]) _ rfl
  by_cases h3 : 1 < s
  · rw [if_pos (show 1 < t.toNat ∨ 17 < p.toNat ∨ 1 < s.toNat from .inr (.inr (by omega)))]
    exact low (-22) (by decide) (by unfold shootR; rw [if_neg h1, if_neg h2, if_pos h3]) _ rfl
  rw [if_neg (show ¬ (1 < t.toNat ∨ 17 < p.toNat ∨ 1 < s.toNat) by omega)]
  have ht' : t = 0 ∨ t = 1 := by omega
  cases k with
  | none =>
    have hk := T.1
    rw [hk]
    exact low (-11) (by decide) (by unfold shootR; rw [if_neg h1, if_neg h2, if_neg h3]) _ rfl
  | some q =>
    obtain ⟨f, hk, KSq, dec⟩ := T
    have dec := dec h
    rw [hk]
    have eR : shootR m (some q) t p s = if q.turn = t then (if (pl m t).getD p.toNat 0 = 1 then (if mustWait q p (pon m t) = true then -17 else if q.tk0 + q.tk1 = 1000000 then -28 else 0) else -61) else -37 := by
      unfold shootR
      rw [if_neg h1, if_neg h2, if_neg h3]
    simp only
    have hf := KSq.first
    have tn := KSq.turn
    have et : (if Kmt3.turn f = true then f.first else 1 - f.first) = t.toNat ↔ q.turn = t := by
      unfold Kmt3.turn
      by_cases c : f.had ≤ f.had2
      · rw [if_pos c] at tn
        rw [if_pos (decide_eq_true c)]
        omega
      · rw [if_neg c] at tn
        rw [if_neg (by rw [decide_eq_false c]; simp)]
        omega
    by_cases h4 : q.turn = t
    · rw [if_neg (show ¬ (if Kmt3.turn f = true then f.first else 1 - f.first) ≠ t.toNat from fun z => z (et.mpr h4))]
      rw [if_pos h4] at eR
      obtain ⟨a1, _⟩ := pl_at S ht' hp (by omega)
      by_cases h5 : Kmt1.place (Kmt1.team x.field t.toNat) p.toNat ≠ 1
      · rw [if_pos h5]
        exact low (-61) (by decide) (by rw [eR, if_neg]; rw [a1]; omega) _ rfl
      rw [if_neg h5]
      rw [if_pos (show (pl m t).getD p.toNat 0 = 1 by rw [a1]; omega)] at eR
      have hd := done_eq S KSq ht' h4
      have hm : mustWait q p (pon m t) = ((Kmt4.shotOf x t.toNat).contains p.toNat && !Kmt4.shotAll x t.toNat) := by
        unfold mustWait
        rw [hd, h4]
        have hs := shots KSq ht' p.toNat
        rw [show ((p.toNat : Nat) : Int) = p by omega] at hs
        by_cases c : p ∈ rnd q t
        · rw [if_pos c, List.contains_iff_mem.mpr (hs.mp c)]
          rfl
        · rw [if_neg c]
          have : (Kmt4.shotOf x t.toNat).contains p.toNat = false := by
            rw [Bool.eq_false_iff]
            exact fun z => c (hs.mpr (List.contains_iff_mem.mp z))
          rw [this]
          rfl
      by_cases h6 : ((Kmt4.shotOf x t.toNat).contains p.toNat && !Kmt4.shotAll x t.toNat) = true
      · rw [if_pos h6]
        exact low (-17) (by decide) (by rw [eR, if_pos (hm.trans h6)]) _ rfl
      rw [if_neg h6]
      rw [if_neg (show ¬ mustWait q p (pon m t) = true by rw [hm]; exact h6)] at eR
      have hsum : q.tk0 + q.tk1 = ((f.had + f.had2 : Nat) : Int) := by
        rcases KSq.both with ⟨_, z1, z2, _⟩ | ⟨_, z1, z2, _⟩ <;> omega
      have hle := KSq.sum
      have eA : Kmt3.acts (some f) (.kick s.toNat) = some (if 1000000 ≤ f.had + f.had2 then (some f, Kmt3.say (-28)) else (some (Kmt3.kick f s.toNat), Kmt3.say (Kmt3.won (Kmt3.kick f s.toNat) : Nat))) := by
        unfold Kmt3.acts
        simp only [Option.map_some]
        rw [if_neg (show ¬ 1 < s.toNat by omega), if_neg (show ¬ Kmt3.decided f ≠ 0 by simpa using dec)]
      rw [eA]
      by_cases h7 : 1000000 ≤ f.had + f.had2
      · rw [if_pos h7]
        exact low (-28) (by decide) (by rw [eR, if_pos (by omega)]) _ rfl
      · rw [if_neg h7]
        rw [if_neg (show ¬ q.tk0 + q.tk1 = 1000000 by omega)] at eR
        have eG : shootG m (some q) t p s = (decidedK (takeK q p s (pon m t)), { m with winner := decidedK (takeK q p s (pon m t)) }, some (takeK q p s (pon m t))) := by
          unfold shootG
          rw [eR]
          rfl
        rw [eG]
        have K2 := KSq.kick (by omega) hp hs (ps := pon m t) h4 hd
        have W := K2.decided
        generalize hF : Kmt3.kick f s.toNat = F at K2 W ⊢
        generalize hQ : takeK q p s (pon m t) = Q at K2 W ⊢
        simp only [Kmt3.say, neg_lt, if_false, Int.toNat_natCast]
        rw [W]
        refine ⟨rfl, ?_, ⟨F, rfl, ?_, fun z => won_dec K2.first z⟩⟩
        · rw [shot_id]
          exact S.winK h
        · exact K2
    · rw [if_pos (show (if Kmt3.turn f = true then f.first else 1 - f.first) ≠ t.toNat from fun z => h4 (et.mp z))]
      exact low (-37) (by decide) (by rw [eR, if_neg h4]) _ rfl
end MK

/-! The mirror against the specification: one call; the whole. -/
namespace MK

theorem lenOk_eq {h e : Int} (hh : 0 ≤ h) (he : 0 ≤ e) : lenOk h e = Kmt2.okTimes h.toNat e.toNat := by
  unfold lenOk Kmt2.okTimes
  by_cases h1 : h < 60
  · rw [if_pos h1, decide_eq_false (show ¬ 60 ≤ h.toNat by omega)]; rfl
  rw [if_neg h1, decide_eq_true (show 60 ≤ h.toNat by omega)]
  by_cases h2 : 3600 < h
  · rw [if_pos h2, decide_eq_false (show ¬ h.toNat ≤ 3600 by omega)]; rfl
  rw [if_neg h2, decide_eq_true (show h.toNat ≤ 3600 by omega)]
  by_cases h3 : e = 0
  · rw [if_pos h3]
    subst h3
    rfl
  rw [if_neg h3, beq_eq_false_iff_ne.mpr (show e.toNat ≠ 0 by omega)]
  by_cases h4 : 60 ≤ e
  · rw [if_pos h4, decide_eq_true (show 60 ≤ e.toNat by omega)]
    show decide (e ≤ 1800) = decide (e.toNat ≤ 1800)
    exact decide_eq_decide.mpr (by omega)
  · rw [if_neg h4, decide_eq_false (show ¬ 60 ≤ e.toNat by omega)]; rfl
theorem fresh_sim : TmSim Kmt1.fresh firstPl noBk 0 0 false 0 := by
  refine ⟨⟨by decide, by decide, by decide, ?_⟩, rfl, by decide, rfl, rfl, rfl, by decide⟩
  decide
theorem start_sim {h e : Int} (hh : 0 ≤ h) (he : 0 ≤ e) : Sim (M0 h e) (Kmt4.begun h.toNat e.toNat) := by
  refine { lens := ?_, played := rfl, run := rfl, gone := fun q => (by cases q), rest := fun _ => rfl, play := rfl, most := Nat.zero_le _, a := fresh_sim, b := fresh_sim, kicks := rfl, won := rfl, full := fun _ => ⟨by show decide ((Kmt1.on Kmt1.fresh).length < 7) = false; decide, by show decide ((Kmt1.on Kmt1.fresh).length < 7) = false; decide⟩ }
  show lensOf h e = lensOf ((h.toNat : Nat) : Int) ((e.toNat : Nat) : Int)
  rw [Int.toNat_of_nonneg hh, Int.toNat_of_nonneg he]
def Rel (ms : Option (M × Option KM)) (s : Kmt4Neutral.S) : Prop := match ms, s with
  | none, none => True
  | some (m, k), some x => Sim m x ∧ KSim k x
  | _, _ => False
/-- what one call is to come to -/
def Good1 (ms : Option (M × Option KM)) (s : Kmt4Neutral.S) (p : Int) (xs : List Int) : Prop := ∃ ms', Rel ms' (Kmt4Neutral.step s [p :: xs]).1 ∧ ∀ rest out, Runs ms' rest out → Runs ms (p :: (xs ++ rest)) (((Kmt4Neutral.step s [p :: xs]).2.length : Int) :: ((Kmt4Neutral.step s [p :: xs]).2 ++ out))
theorem one_num {m : M} {k : Option KM} {x : Kmt4.Match} {p : Int} {xs : List Int} {y : Kmt4.Match} (S : Sim m x) (T : KSim k x) (ok : okCall p xs) (e1 : Kmt4Neutral.step (some x) [p :: xs] = (some y, (numsG m k p xs).1)) (e2 : Sim (numsG m k p xs).2.1 y) (e3 : KSim (numsG m k p xs).2.2 y) :
    Good1 (some (m, k)) (some x) p xs := by
  refine ⟨some (numsG m k p xs).2, ?_, fun rest out h => ?_⟩
  · rw [e1]
    exact ⟨e2, e3⟩
  · rw [e1]
    exact .call S.wf T.wf ok h
theorem one_ans {m : M} {k : Option KM} {x : Kmt4.Match} {p : Int} {xs : List Int} {c : Kmt4.Call} (S : Sim m x) (T : KSim k x) (ok : okAns p xs) (e1 : Kmt4Neutral.step (some x) [p :: xs] = (some (Kmt4.changes x c).1, (Kmt4.changes x c).2.value :: (Kmt4.changes x c).2.out))
    (h : x.won = 0 → (Kmt4.changes x c).2 = Kmt4.say (ansG m k p xs).1 ∧ Sim (ansG m k p xs).2.1 (Kmt4.changes x c).1 ∧ KSim (ansG m k p xs).2.2 (Kmt4.changes x c).1) : Good1 (some (m, k)) (some x) p xs := by
  have hc : ¬ p = 10 ∧ ¬ p = 11 ∧ ¬ p = 12 ∧ ¬ p = 13 := by
    have := ok.2
    omega
  obtain ⟨c1, c2, c3, c4⟩ := hc
  have hw := S.won
  by_cases q : x.won = 0
  · obtain ⟨h1, h2, h3⟩ := h q
    have eN : numsG m k p xs = ([(ansG m k p xs).1], (ansG m k p xs).2) := by
      unfold numsG
      rw [if_neg c1, if_neg c2, if_neg c3, if_neg c4, if_pos (by omega)]
    refine one_num S T (.inl ok) (y := (Kmt4.changes x c).1) ?_ ?_ ?_
    · rw [e1, h1, eN]; rfl
    · rw [eN]; exact h2
    · rw [eN]; exact h3
  · have eN : numsG m k p xs = ([-41], m, k) := by
      unfold numsG
      rw [if_neg c1, if_neg c2, if_neg c3, if_neg c4, if_neg (by omega)]
    have eC : Kmt4.changes x c = (x, Kmt4.say (-41)) := by
      unfold Kmt4.changes
      rw [if_pos q]
    refine one_num S T (.inl ok) (y := x) ?_ ?_ ?_
    · rw [e1, eC, eN]; rfl
    · rw [eN]; exact S
    · rw [eN]; exact T
theorem all0 {x : Int} {xs : List Int} (h : ∀ y ∈ x :: xs, 0 ≤ y) : 0 ≤ x ∧ ∀ y ∈ xs, 0 ≤ y := ⟨h x (List.mem_cons_self ..), fun y hy => h y (List.mem_cons_of_mem _ hy)⟩
theorem one (ms : Option (M × Option KM)) (s : Kmt4Neutral.S) (p : Int) (xs : List Int) (R : Rel ms s) (h0 : ∀ x ∈ xs, 0 ≤ x) (hs : PyKmt4.shape p = some (xs.length, 0)) (ne : (Kmt4Neutral.step s [p :: xs]).2 ≠ []) : Good1 ms s p xs := by
  by_cases hp0 : p = 0
  · subst hp0
    have hl : xs.length = 2 := by
      have : some (2, 0) = some (xs.length, 0) := hs
      simp at this
      omega
    match xs, hl with
    | [h, e], _ =>
      have hh := (all0 h0).1
      have he := (all0 (all0 h0).2).1
      have eo := lenOk_eq hh he
      by_cases q : lenOk h e = true
      · have e1 : Kmt4Neutral.step s [[0, h, e]] = (some (Kmt4.begun h.toNat e.toNat), [0]) := by
          show (match Kmt4.acts s (.start h.toNat e.toNat) with | none => (s, []) | some (t, a) => (t, a.value :: a.out)) = _
          unfold Kmt4.acts
          simp only
          rw [if_pos (eo ▸ q)]
          rfl
        refine ⟨some (M0 h e, none), ?_, fun rest out hr => ?_⟩
        · rw [e1]
          exact ⟨start_sim hh he, rfl, rfl, rfl⟩
        · rw [e1]
          have := Runs.start (s := ms) (h := h) (e := e) (rest := rest) (out := out) (by rw [if_pos q]; exact hr)
          rw [if_pos q] at this
          exact this
      · have e1 : Kmt4Neutral.step s [[0, h, e]] = (s, [-22]) := by
          show (match Kmt4.acts s (.start h.toNat e.toNat) with | none => (s, []) | some (t, a) => (t, a.value :: a.out)) = _
          unfold Kmt4.acts
          simp only
          rw [if_neg (eo ▸ q)]
          rfl
        refine ⟨ms, ?_, fun rest out hr => ?_⟩
        · rw [e1]
          exact R
        · rw [e1]
          have := Runs.start (s := ms) (h := h) (e := e) (rest := rest) (out := out) (by rw [if_neg q]; exact hr)
          rw [if_neg q] at this
          exact this
  have hp : (p = 1 ∧ xs.length = 0) ∨ (p = 2 ∧ xs.length = 1) ∨ (p = 3 ∧ xs.length = 1) ∨ (p = 4 ∧ xs.length = 0) ∨ (p = 5 ∧ xs.length = 3) ∨ (p = 6 ∧ xs.length = 3) ∨ (p = 7 ∧ xs.length = 3) ∨ (p = 8 ∧ xs.length = 1) ∨ (p = 9 ∧ xs.length = 3) ∨
      (p = 10 ∧ xs.length = 0) ∨ (p = 11 ∧ xs.length = 1) ∨ (p = 12 ∧ xs.length = 0) ∨ (p = 13 ∧ xs.length = 0) := by
    unfold PyKmt4.shape at hs
    rw [if_neg hp0] at hs
    by_cases h1 : p = 1
    · rw [if_pos h1] at hs
      have hs := (Prod.mk.inj (Option.some.inj hs)).1
      omega
    rw [if_neg h1] at hs
    by_cases h2 : p = 2
    · rw [if_pos h2] at hs
      have hs := (Prod.mk.inj (Option.some.inj hs)).1
      omega
    rw [if_neg h2] at hs
    by_cases h3 : p = 3
    · rw [if_pos h3] at hs
      have hs := (Prod.mk.inj (Option.some.inj hs)).1
      omega
    rw [if_neg h3] at hs
    by_cases h4 : p = 4
    · rw [if_pos h4] at hs
      have hs := (Prod.mk.inj (Option.some.inj hs)).1
      omega
    rw [if_neg h4] at hs
    by_cases h5 : p = 5
    · rw [if_pos h5] at hs
      have hs := (Prod.mk.inj (Option.some.inj hs)).1
      omega
    rw [if_neg h5] at hs
    by_cases h6 : p = 6
    · rw [if_pos h6] at hs
      have hs := (Prod.mk.inj (Option.some.inj hs)).1
      omega
    rw [if_neg h6] at hs
    by_cases h7 : p = 7
    · rw [if_pos h7] at hs
      have hs := (Prod.mk.inj (Option.some.inj hs)).1
      omega
    rw [if_neg h7] at hs
    by_cases h8 : p = 8
    · rw [if_pos h8] at hs
      have hs := (Prod.mk.inj (Option.some.inj hs)).1
      omega
    rw [if_neg h8] at hs
    by_cases h9 : p = 9
    · rw [if_pos h9] at hs
      have hs := (Prod.mk.inj (Option.some.inj hs)).1
      omega
    rw [if_neg h9] at hs
    by_cases h10 : p = 10
    · rw [if_pos h10] at hs
      have hs := (Prod.mk.inj (Option.some.inj hs)).1
      omega
    rw [if_neg h10] at hs
    by_cases h11 : p = 11
    · rw [if_pos h11] at hs
      have hs := (Prod.mk.inj (Option.some.inj hs)).1
      omega
    rw [if_neg h11] at hs
    by_cases h12 : p = 12
    · rw [if_pos h12] at hs
      have hs := (Prod.mk.inj (Option.some.inj hs)).1
      omega
    rw [if_neg h12] at hs
    by_cases h13 : p = 13
    · rw [if_pos h13] at hs
      have hs := (Prod.mk.inj (Option.some.inj hs)).1
      omega
    rw [if_neg h13] at hs
    exact absurd hs (by simp)
  cases s with
  | none =>
    exfalso
    apply ne
    rcases hp with ⟨rfl, hl⟩ | ⟨rfl, hl⟩ | ⟨rfl, hl⟩ | ⟨rfl, hl⟩ | ⟨rfl, hl⟩ | ⟨rfl, hl⟩ | ⟨rfl, hl⟩ | ⟨rfl, hl⟩ | ⟨rfl, hl⟩ | ⟨rfl, hl⟩ | ⟨rfl, hl⟩ | ⟨rfl, hl⟩ | ⟨rfl, hl⟩
    · match xs, hl with
      | [], _ => rfl
    · match xs, hl with
      | [a], _ => rfl
    · match xs, hl with
      | [a], _ => rfl
    · match xs, hl with
      | [], _ => rfl
    · match xs, hl with
      | [a, b, c], _ => rfl
    · match xs, hl with
      | [a, b, c], _ => rfl
    · match xs, hl with
      | [a, b, c], _ => rfl
    · match xs, hl with
      | [a], _ => rfl
    · match xs, hl with
      | [a, b, c], _ => rfl
    · match xs, hl with
      | [], _ => rfl
    · match xs, hl with
      | [a], _ => rfl
    · match xs, hl with
      | [], _ => rfl
    · match xs, hl with
      | [], _ => rfl
  | some x =>
    match ms, R with
    | some (m, k), R =>
      obtain ⟨S, T⟩ := R
      rcases hp with ⟨rfl, hl⟩ | ⟨rfl, hl⟩ | ⟨rfl, hl⟩ | ⟨rfl, hl⟩ | ⟨rfl, hl⟩ | ⟨rfl, hl⟩ | ⟨rfl, hl⟩ | ⟨rfl, hl⟩ | ⟨rfl, hl⟩ | ⟨rfl, hl⟩ | ⟨rfl, hl⟩ | ⟨rfl, hl⟩ | ⟨rfl, hl⟩
      · match xs, hl with
        | [], _ => exact one_ans (c := .kick) S T ⟨h0, by omega⟩ rfl fun h => ⟨(kick_sim S h).1, (kick_sim S h).2, T.keep h (kick_k h)⟩
      · match xs, hl with
        | [a], _ =>
          have ha := (all0 h0).1
          exact one_ans (c := .tick a.toNat) S T ⟨h0, by simp⟩ rfl fun h => ⟨(tick_sim S h a ha).1, (tick_sim S h a ha).2, T.keep h (tick_k h)⟩
      · match xs, hl with
        | [a], _ =>
          have ha := (all0 h0).1
          exact one_ans (c := .halt_ a.toNat) S T ⟨h0, by simp⟩ rfl fun h => ⟨(stop_sim S h a ha).1, (stop_sim S h a ha).2, T.keep h (stop_k h)⟩
      · match xs, hl with
        | [], _ => exact one_ans (c := .whistle) S T ⟨h0, by simp⟩ rfl fun h => ⟨(whistle_sim S h).1, (whistle_sim S h).2, T.keep h (whistle_k h)⟩
      · match xs, hl with
        | [a, b, c], _ =>
          have ha := (all0 h0).1
          have hb := (all0 (all0 h0).2).1
          have hc := (all0 (all0 (all0 h0).2).2).1
          exact one_ans (c := .card a.toNat b.toNat c.toNat) S T ⟨h0, by simp⟩ rfl fun h => ⟨(card_sim S h a b c ha hb hc).1, (card_sim S h a b c ha hb hc).2, T.keep h (card_k h)⟩
      · match xs, hl with
        | [a, b, c], _ =>
          have ha := (all0 h0).1
          have hb := (all0 (all0 h0).2).1
          have hc := (all0 (all0 (all0 h0).2).2).1
          exact one_ans (c := .change a.toNat b.toNat c.toNat) S T ⟨h0, by simp⟩ rfl fun h => ⟨(change_sim S h a b c ha hb hc).1, (change_sim S h a b c ha hb hc).2, T.keep h (change_k h)⟩
      · match xs, hl with
        | [a, b, c], _ =>
          have ha := (all0 h0).1
          have hb := (all0 (all0 h0).2).1
          have hc := (all0 (all0 (all0 h0).2).2).1
          exact one_ans (c := .goal a.toNat b.toNat c.toNat) S T ⟨h0, by simp⟩ rfl fun h => ⟨(goal_sim S h a b c ha hb hc).1, (goal_sim S h a b c ha hb hc).2, T.keep h (goal_k h)⟩
      · match xs, hl with
        | [a], _ =>
          have ha := (all0 h0).1
          exact one_ans (c := .first a.toNat) S T ⟨h0, by simp⟩ rfl fun h => first_sim S T h a ha
      · match xs, hl with
        | [a, b, c], _ =>
          have ha := (all0 h0).1
          have hb := (all0 (all0 h0).2).1
          have hc := (all0 (all0 (all0 h0).2).2).1
          exact one_ans (c := .shoot a.toNat b.toNat c.toNat) S T ⟨h0, by simp⟩ rfl fun h => shoot_sim S T h a b c ha hb hc
      · match xs, hl with
        | [], _ =>
          refine one_num S T (.inr ⟨h0, by simp⟩) (y := x) ?_ S T
          show (some x, [((x.clock.played : Nat) : Int), ((Kmt4.score x 0 : Nat) : Int), ((Kmt4.score x 1 : Nat) : Int)]) = (some x, [m.played, m.sc0, m.sc1])
          rw [S.played, S.a.sc, S.b.sc]
          rfl
      · match xs, hl with
        | [a], _ =>
          have ha := (all0 h0).1
          refine one_num S T (.inr ⟨h0, by simp⟩) (y := x) ?_ S T
          have e1 : Kmt4Neutral.step (some x) [[11, a]] = (some x, (if 1 < a.toNat then Kmt4.say (-22) else (⟨((Kmt1.on (Kmt1.team x.field a.toNat)).length : Nat), [((Kmt1.bits (Kmt1.on (Kmt1.team x.field a.toNat)) : Nat) : Int)]⟩ : Kmt4.Ans)).value :: (if 1 < a.toNat then Kmt4.say (-22) else (⟨((Kmt1.on (Kmt1.team x.field a.toNat)).length : Nat), [((Kmt1.bits (Kmt1.on (Kmt1.team x.field a.toNat)) : Nat) : Int)]⟩ : Kmt4.Ans)).out) := rfl
          rw [e1]
          show _ = (some x, onF m a)
          unfold onF
          by_cases q : 1 < a
          · rw [if_pos q, if_pos (by omega)]
            rfl
          · rw [if_neg q, if_neg (by omega), on_pon S (by omega), bits_on, List.length_map]
      · match xs, hl with
        | [], _ =>
          refine one_num S T (.inr ⟨h0, by simp⟩) (y := x) ?_ S T
          have e1 : Kmt4Neutral.step (some x) [[12]] = (some x, (if x.clock.runs = false then Kmt4.say (-11) else (⟨0, [((Kmt2.minute x.clock).1 : Int), ((Kmt2.minute x.clock).2 : Int)]⟩ : Kmt4.Ans)).value :: (if x.clock.runs = false then Kmt4.say (-11) else (⟨0, [((Kmt2.minute x.clock).1 : Int), ((Kmt2.minute x.clock).2 : Int)]⟩ : Kmt4.Ans)).out) := rfl
          rw [e1]
          show _ = (some x, minC m)
          rw [minute_eq S]
          by_cases q : x.clock.runs = false
          · rw [if_pos q, if_pos q]
            rfl
          · rw [if_neg q, if_neg q]
      · match xs, hl with
        | [], _ =>
          refine one_num S T (.inr ⟨h0, by simp⟩) (y := x) ?_ S T
          show (some x, [((x.won : Nat) : Int)]) = (some x, [m.winner])
          rw [S.won]
/-- the whole: what is asked of the program's runs -/
theorem whole {ns : List Int} (hl : ∀ x ∈ ns, 0 ≤ x) (h : PyKmt4.answers_asked ns = true) : Runs none ns (PyKmt4.answers ns) := runs_asked (R := Rel) trivial one hl h
end MK

/-! The promise of the whole, and that it is what is asked. -/
namespace MK
open PySem PySem.Spec PyProof.Rows L2
def sp_top (K : PySem.W.Frag) : Sp := fun vs H Q _ => ∃ l ns out, vs = [.ref l] ∧ SqL K H l (ns.map V.int) ∧ ns.length ≤ 30000 ∧ Runs none ns out ∧ ∀ b H', H' b = some (.lst (out.map V.int)) → Q (.ref b) H'
theorem ok_top {P : Program} {w : World} {K : PySem.W.Frag} {mg : Str → Option Value} {base : Heap} {a : Ad} (T : Txt K mg a) : FnOk P w K mg base CX0 8 a.f_answers a.d_answers ["calls"] (sp_top K) := ok_answers T
theorem top_sp {K : PySem.W.Frag} {H : Hp} {a : Addr} {ns : List Int} {E : XK} (hl : ns.length ≤ 30000) (hb : ∀ z ∈ ns, 0 ≤ z ∧ z ≤ 4294967295) (hq : PyKmt4.answers_asked ns = true) (hS : SqL K H a (ns.map V.int)) :
    sp_top K [.ref a] H (fun v H' => ∃ b, v = .ref b ∧ H' b = some (.lst ((PyKmt4.answers ns).map V.int))) E :=
  ⟨a, ns, PyKmt4.answers ns, rfl, hS, hl, whole (fun z hz => (hb z hz).1) hq, fun b H' h => ⟨b, rfl, h⟩⟩
end MK

open PySem PySem.W PyProof.Rows
/-! These names are taken, so that the head below makes no second copies of the great states for its own use: it does as well without them, and what Lean writes out stays a third of its size. -/
theorem PySem.W.Fast.tw15878424352589986390 : True := trivial
theorem PySem.W.Fast.tw9279733251276595803 : True := trivial
theorem PySem.W.Fast.tw170796417744505356 : True := trivial
theorem PySem.W.Fast.tw10543315016477160516 : True := trivial
theorem PySem.W.Fast.tw685054469687070436 : True := trivial
theorem PySem.W.Fast.tw4837742217285585124 : True := trivial
theorem PySem.W.Fast.tw8362218402750435613 : True := trivial
theorem PySem.W.Fast.tw11022331249112468674 : True := trivial
theorem PySem.W.Fast.tw17116073107405061193 : True := trivial
theorem PySem.W.Fast.tw9887214119444099207 : True := trivial
theorem PySem.W.Fast.tw8271597447618493407 : True := trivial
theorem PySem.W.Fast.tw18141700915198424986 : True := trivial
theorem PySem.W.Fast.tw16354642168467077039 : True := trivial
theorem PySem.W.Fast.tw15779171018019888540 : True := trivial
theorem PySem.W.Fast.tw180155090220421003 : True := trivial
theorem PySem.W.Fast.tw2673387442911911145 : True := trivial
theorem PySem.W.Fast.tw18303280699751413432 : True := trivial
theorem MK.said : PySem.Challenge.rw_matchkeeper_s01_answers.wellSaid = true := by decide +kernel
set_option maxRecDepth 100000 in
set_option maxHeartbeats 0 in
theorem PySem.Challenge.cw_matchkeeper_s01_answers_holds : PySem.Challenge.rw_matchkeeper_s01_answers.Holds := by
  w_on; k_headS; (case hw => exact ⟨[.list [.int 0, .int 60, .int 0]], by decide +kernel, by decide +kernel⟩)
  k_fillS
  refine MK.spec_walk (k := 8) (x := "calls") (sp := fun K => MK.sp_top K) MK.said (by decide) rfl ⟨rfl, by decide, by decide⟩ (fun w h Y => PySem.W.kIn_of Y) ?F ?S
  case S => exact fun K H a ns hl hb hq _ hS => MK.top_sp hl hb hq hS
  case F =>
    intro w mg fa h KX G hmg
    have T : ∃ a : MK.Ad, MK.Txt (L2.KOf KX) mg a ∧ ∀ (s : Shared) (u : Value), BindsTo s a.d_answers ⟨[u], []⟩ [("calls", u)] := by
      dsimp only [L2.KOf]
      refine' MK.txt_mk KX G ?hg_WAS_SENT_OFF ?hg_NO_PERIOD ?hg_NO_KICKS ?hg_NOT_NOW ?hg_HAS_KICKED ?hg_OUT_OF_RANGE ?hg_USED_UP ?hg_NO_WINDOW ?hg_TOO_EARLY ?hg_NOT_THEIR_TURN ?hg_MATCH_OVER ?hg_NOT_ON ?hg_NOT_ON_BENCH ?hg_SHORTEST ?hg_LONGEST_HALF ?hg_LONGEST_EXTRA ?hg_LONGEST_TICK ?hg_MOST_SECONDS ?hg_MINUTE_clock ?hg_LAST_TEAM ?hg_NOBODY ?hg_PLAYERS ?hg_STARTERS ?hg_FEWEST_ON ?hg_ON_field ?hg_BENCH ?hg_OUT ?hg_SENT_OFF ?hg_YELLOW ?hg_RED ?hg_GOES_ON ?hg_STANDS ?hg_RESTS ?hg_MOST_CHANGES ?hg_MOST_WINDOWS ?hg_MOST_GOALS ?hg_KICKS_EACH ?hg_MOST_KICKS ?hg_START ?hg_KICK ?hg_TICK ?hg_STOP ?hg_WHISTLE ?hg_CARD ?hg_CHANGE ?hg_GOAL ?hg_FIRST ?hg_SCORE ?hg_ON_referee ?hg_MINUTE_referee ?hg_WON ?hg_HANDED ?hs_HANDED ?hno_all ?hno_len ?hno_max ?hno_min ?hno_range ?hno_sum ?hc_Clock ?hpg_Clock ?hhd_Clock ?hpo_Clock ?hsa_Clock ?hmk_Clock ?hkc_Clock ?hn_Clock_lengths ?hn_Clock_played ?hn_Clock_running ?hn_Clock_gone ?hn_Clock_stood ?hc_Field ?hpg_Field ?hhd_Field ?hpo_Field ?hsa_Field ?hmk_Field ?hkc_Field ?hn_Field_places ?hn_Field_booked ?hn_Field_play ?hn_Field_changes ?hn_Field_windows ?hn_Field_in_window ?hn_Field_scored ?hc_Kicks ?hpg_Kicks ?hhd_Kicks ?hpo_Kicks ?hsa_Kicks ?hmk_Kicks ?hkc_Kicks ?hn_Kicks_turn ?hn_Kicks_taken ?hn_Kicks_hits ?hn_Kicks_in_round ?hc_Game ?hpg_Game ?hhd_Game ?hpo_Game ?hsa_Game ?hmk_Game ?hkc_Game ?hn_Game_clock ?hn_Game_field ?hn_Game_at_kicks ?hn_Game_kicks ?hn_Game_winner ?ha_lengths_allowed ?hl_lengths_allowed ?he_lengths_allowed ?hk_lengths_allowed ?ha_minutes_rounded_up ?hl_minutes_rounded_up ?he_minutes_rounded_up ?hk_minutes_rounded_up ?ha_Clock_init ?hi_Clock_init ?hl_Clock_init ?he_Clock_init ?hk_Clock_init ?ha_Clock_all_played ?hi_Clock_all_played ?hl_Clock_all_played ?he_Clock_all_played ?hk_Clock_all_played ?ha_Clock_length ?hi_Clock_length ?hl_Clock_length ?he_Clock_length ?hk_Clock_length ?ha_Clock_kick ?hi_Clock_kick ?hl_Clock_kick ?he_Clock_kick ?hk_Clock_kick ?ha_Clock_tick ?hi_Clock_tick ?hl_Clock_tick ?he_Clock_tick ?hk_Clock_tick ?ha_Clock_whistle ?hi_Clock_whistle ?hl_Clock_whistle ?he_Clock_whistle ?hk_Clock_whistle ?ha_Clock_minute ?hi_Clock_minute ?hl_Clock_minute ?he_Clock_minute ?hk_Clock_minute ?ha_other ?hl_other ?he_other ?hk_other ?ha_won_by ?hl_won_by ?he_won_by ?hk_won_by ?ha_first_places ?hl_first_places ?he_first_places ?hk_first_places ?ha_as_bits ?hl_as_bits ?he_as_bits ?hk_as_bits ?ha_Field_init ?hi_Field_init ?hl_Field_init ?he_Field_init ?hk_Field_init ?ha_Field_set_play ?hi_Field_set_play ?hl_Field_set_play ?he_Field_set_play ?hk_Field_set_play ?ha_Field_is_standing ?hi_Field_is_standing ?hl_Field_is_standing ?he_Field_is_standing ?hk_Field_is_standing ?ha_Field_is_on ?hi_Field_is_on ?hl_Field_is_on ?he_Field_is_on ?hk_Field_is_on ?ha_Field_players_on ?hi_Field_players_on ?hl_Field_players_on ?he_Field_players_on ?hk_Field_players_on ?ha_Field_too_few ?hi_Field_too_few ?hl_Field_too_few ?he_Field_too_few ?hk_Field_too_few ?ha_Field_on ?hi_Field_on ?hl_Field_on ?he_Field_on ?hk_Field_on ?ha_Field_card ?hi_Field_card ?hl_Field_card ?he_Field_card ?hk_Field_card ?ha_Field_change ?hi_Field_change ?hl_Field_change ?he_Field_change ?hk_Field_change ?ha_Field_change_refusal ?hi_Field_change_refusal ?hl_Field_change_refusal ?he_Field_change_refusal ?hk_Field_change_refusal ?ha_Field_needs_window ?hi_Field_needs_window ?hl_Field_needs_window ?he_Field_needs_window ?hk_Field_needs_window ?ha_Field_take_window ?hi_Field_take_window ?hl_Field_take_window ?he_Field_take_window ?hk_Field_take_window ?ha_Field_goal ?hi_Field_goal ?hl_Field_goal ?he_Field_goal ?hk_Field_goal ?ha_Kicks_init ?hi_Kicks_init ?hl_Kicks_init ?he_Kicks_init ?hk_Kicks_init ?ha_Kicks_all_taken ?hi_Kicks_all_taken ?hl_Kicks_all_taken ?he_Kicks_all_taken ?hk_Kicks_all_taken ?ha_Kicks_round_is_done ?hi_Kicks_round_is_done ?hl_Kicks_round_is_done ?he_Kicks_round_is_done ?hk_Kicks_round_is_done ?ha_Kicks_must_wait ?hi_Kicks_must_wait ?hl_Kicks_must_wait ?he_Kicks_must_wait ?hk_Kicks_must_wait ?ha_Kicks_take ?hi_Kicks_take ?hl_Kicks_take ?he_Kicks_take ?hk_Kicks_take ?ha_Kicks_decided_for ?hi_Kicks_decided_for ?hl_Kicks_decided_for ?he_Kicks_decided_for ?hk_Kicks_decided_for ?ha_Kicks_left ?hi_Kicks_left ?hl_Kicks_left ?he_Kicks_left ?hk_Kicks_left ?ha_Game_init ?hi_Game_init ?hl_Game_init ?he_Game_init ?hk_Game_init ?ha_Game_kick ?hi_Game_kick ?hl_Game_kick ?he_Game_kick ?hk_Game_kick ?ha_Game_tick ?hi_Game_tick ?hl_Game_tick ?he_Game_tick ?hk_Game_tick ?ha_Game_stop ?hi_Game_stop ?hl_Game_stop ?he_Game_stop ?hk_Game_stop ?ha_Game_whistle ?hi_Game_whistle ?hl_Game_whistle ?he_Game_whistle ?hk_Game_whistle ?ha_Game_settle ?hi_Game_settle ?hl_Game_settle ?he_Game_settle ?hk_Game_settle ?ha_Game_card ?hi_Game_card ?hl_Game_card ?he_Game_card ?hk_Game_card ?ha_Game_change ?hi_Game_change ?hl_Game_change ?he_Game_change ?hk_Game_change ?ha_Game_goal ?hi_Game_goal ?hl_Game_goal ?he_Game_goal ?hk_Game_goal ?ha_Game_first ?hi_Game_first ?hl_Game_first ?he_Game_first ?hk_Game_first ?ha_Game_shoot ?hi_Game_shoot ?hl_Game_shoot ?he_Game_shoot ?hk_Game_shoot ?ha_Game_shoot_refusal ?hi_Game_shoot_refusal ?hl_Game_shoot_refusal ?he_Game_shoot_refusal ?hk_Game_shoot_refusal ?ha_Game_score ?hi_Game_score ?hl_Game_score ?he_Game_score ?hk_Game_score ?ha_Game_on ?hi_Game_on ?hl_Game_on ?he_Game_on ?hk_Game_on ?ha_Game_minute ?hi_Game_minute ?hl_Game_minute ?he_Game_minute ?hk_Game_minute ?ha_answers ?hl_answers ?he_answers ?hk_answers ?ha_numbers_of ?hl_numbers_of ?he_numbers_of ?hk_numbers_of ?ha_answer_of ?hl_answer_of ?he_answer_of ?hk_answer_of
      (case hg_WAS_SENT_OFF => k_is)
      (case hg_NO_PERIOD => k_is)
      (case hg_NO_KICKS => k_is)
      (case hg_NOT_NOW => k_is)
      (case hg_HAS_KICKED => k_is)
      (case hg_OUT_OF_RANGE => k_is)
      (case hg_USED_UP => k_is)
      (case hg_NO_WINDOW => k_is)
      (case hg_TOO_EARLY => k_is)
      (case hg_NOT_THEIR_TURN => k_is)
      (case hg_MATCH_OVER => k_is)
      (case hg_NOT_ON => k_is)
      (case hg_NOT_ON_BENCH => k_is)
      (case hg_SHORTEST => k_is)
      (case hg_LONGEST_HALF => k_is)
      (case hg_LONGEST_EXTRA => k_is)
      (case hg_LONGEST_TICK => k_is)
      (case hg_MOST_SECONDS => k_is)
      (case hg_MINUTE_clock => k_is)
      (case hg_LAST_TEAM => k_is)
      (case hg_NOBODY => k_is)
      (case hg_PLAYERS => k_is)
      (case hg_STARTERS => k_is)
      (case hg_FEWEST_ON => k_is)
      (case hg_ON_field => k_is)
      (case hg_BENCH => k_is)
      (case hg_OUT => k_is)
      (case hg_SENT_OFF => k_is)
      (case hg_YELLOW => k_is)
      (case hg_RED => k_is)
      (case hg_GOES_ON => k_is)
      (case hg_STANDS => k_is)
      (case hg_RESTS => k_is)
      (case hg_MOST_CHANGES => k_is)
      (case hg_MOST_WINDOWS => k_is)
      (case hg_MOST_GOALS => k_is)
      (case hg_KICKS_EACH => k_is)
      (case hg_MOST_KICKS => k_is)
      (case hg_START => k_is)
      (case hg_KICK => k_is)
      (case hg_TICK => k_is)
      (case hg_STOP => k_is)
      (case hg_WHISTLE => k_is)
      (case hg_CARD => k_is)
      (case hg_CHANGE => k_is)
      (case hg_GOAL => k_is)
      (case hg_FIRST => k_is)
      (case hg_SCORE => k_is)
      (case hg_ON_referee => k_is)
      (case hg_MINUTE_referee => k_is)
      (case hg_WON => k_is)
      (case hg_HANDED => k_is)
      (case hs_HANDED => k_is)
      (case hno_all => k_is)
      (case hno_len => k_is)
      (case hno_max => k_is)
      (case hno_min => k_is)
      (case hno_range => k_is)
      (case hno_sum => k_is)
      (case hc_Clock => k_is)
      (case hpg_Clock => k_is)
      (case hhd_Clock => k_is)
      (case hpo_Clock => k_is)
      (case hsa_Clock => k_is)
      (case hmk_Clock => k_is)
      (case hkc_Clock => k_is)
      (case hn_Clock_lengths => k_is)
      (case hn_Clock_played => k_is)
      (case hn_Clock_running => k_is)
      (case hn_Clock_gone => k_is)
      (case hn_Clock_stood => k_is)
      (case hc_Field => k_is)
      (case hpg_Field => k_is)
      (case hhd_Field => k_is)
      (case hpo_Field => k_is)
      (case hsa_Field => k_is)
      (case hmk_Field => k_is)
      (case hkc_Field => k_is)
      (case hn_Field_places => k_is)
      (case hn_Field_booked => k_is)
      (case hn_Field_play => k_is)
      (case hn_Field_changes => k_is)
      (case hn_Field_windows => k_is)
      (case hn_Field_in_window => k_is)
      (case hn_Field_scored => k_is)
      (case hc_Kicks => k_is)
      (case hpg_Kicks => k_is)
      (case hhd_Kicks => k_is)
      (case hpo_Kicks => k_is)
      (case hsa_Kicks => k_is)
      (case hmk_Kicks => k_is)
      (case hkc_Kicks => k_is)
      (case hn_Kicks_turn => k_is)
      (case hn_Kicks_taken => k_is)
      (case hn_Kicks_hits => k_is)
      (case hn_Kicks_in_round => k_is)
      (case hc_Game => k_is)
      (case hpg_Game => k_is)
      (case hhd_Game => k_is)
      (case hpo_Game => k_is)
      (case hsa_Game => k_is)
      (case hmk_Game => k_is)
      (case hkc_Game => k_is)
      (case hn_Game_clock => k_is)
      (case hn_Game_field => k_is)
      (case hn_Game_at_kicks => k_is)
      (case hn_Game_kicks => k_is)
      (case hn_Game_winner => k_is)
      (case ha_lengths_allowed => k_is)
      (case hl_lengths_allowed => k_is)
      (case he_lengths_allowed => k_is)
      (case hk_lengths_allowed => k_is)
      (case ha_minutes_rounded_up => k_is)
      (case hl_minutes_rounded_up => k_is)
      (case he_minutes_rounded_up => k_is)
      (case hk_minutes_rounded_up => k_is)
      (case ha_Clock_init => k_is)
      (case hi_Clock_init => k_is)
      (case hl_Clock_init => k_is)
      (case he_Clock_init => k_is)
      (case hk_Clock_init => k_is)
      (case ha_Clock_all_played => k_is)
      (case hi_Clock_all_played => k_is)
      (case hl_Clock_all_played => k_is)
      (case he_Clock_all_played => k_is)
      (case hk_Clock_all_played => k_is)
      (case ha_Clock_length => k_is)
      (case hi_Clock_length => k_is)
      (case hl_Clock_length => k_is)
      (case he_Clock_length => k_is)
      (case hk_Clock_length => k_is)
      (case ha_Clock_kick => k_is)
      (case hi_Clock_kick => k_is)
      (case hl_Clock_kick => k_is)
      (case he_Clock_kick => k_is)
      (case hk_Clock_kick => k_is)
      (case ha_Clock_tick => k_is)
      (case hi_Clock_tick => k_is)
      (case hl_Clock_tick => k_is)
      (case he_Clock_tick => k_is)
      (case hk_Clock_tick => k_is)
      (case ha_Clock_whistle => k_is)
      (case hi_Clock_whistle => k_is)
      (case hl_Clock_whistle => k_is)
      (case he_Clock_whistle => k_is)
      (case hk_Clock_whistle => k_is)
      (case ha_Clock_minute => k_is)
      (case hi_Clock_minute => k_is)
      (case hl_Clock_minute => k_is)
      (case he_Clock_minute => k_is)
      (case hk_Clock_minute => k_is)
      (case ha_other => k_is)
      (case hl_other => k_is)
      (case he_other => k_is)
      (case hk_other => k_is)
      (case ha_won_by => k_is)
      (case hl_won_by => k_is)
      (case he_won_by => k_is)
      (case hk_won_by => k_is)
      (case ha_first_places => k_is)
      (case hl_first_places => k_is)
      (case he_first_places => k_is)
      (case hk_first_places => k_is)
      (case ha_as_bits => k_is)
      (case hl_as_bits => k_is)
      (case he_as_bits => k_is)
      (case hk_as_bits => k_is)
      (case ha_Field_init => k_is)
      (case hi_Field_init => k_is)
      (case hl_Field_init => k_is)
      (case he_Field_init => k_is)
      (case hk_Field_init => k_is)
      (case ha_Field_set_play => k_is)
      (case hi_Field_set_play => k_is)
      (case hl_Field_set_play => k_is)
      (case he_Field_set_play => k_is)
      (case hk_Field_set_play => k_is)
      (case ha_Field_is_standing => k_is)
      (case hi_Field_is_standing => k_is)
      (case hl_Field_is_standing => k_is)
      (case he_Field_is_standing => k_is)
      (case hk_Field_is_standing => k_is)
      (case ha_Field_is_on => k_is)
      (case hi_Field_is_on => k_is)
      (case hl_Field_is_on => k_is)
      (case he_Field_is_on => k_is)
      (case hk_Field_is_on => k_is)
      (case ha_Field_players_on => k_is)
      (case hi_Field_players_on => k_is)
      (case hl_Field_players_on => k_is)
      (case he_Field_players_on => k_is)
      (case hk_Field_players_on => k_is)
      (case ha_Field_too_few => k_is)
      (case hi_Field_too_few => k_is)
      (case hl_Field_too_few => k_is)
      (case he_Field_too_few => k_is)
      (case hk_Field_too_few => k_is)
      (case ha_Field_on => k_is)
      (case hi_Field_on => k_is)
      (case hl_Field_on => k_is)
      (case he_Field_on => k_is)
      (case hk_Field_on => k_is)
      (case ha_Field_card => k_is)
      (case hi_Field_card => k_is)
      (case hl_Field_card => k_is)
      (case he_Field_card => k_is)
      (case hk_Field_card => k_is)
      (case ha_Field_change => k_is)
      (case hi_Field_change => k_is)
      (case hl_Field_change => k_is)
      (case he_Field_change => k_is)
      (case hk_Field_change => k_is)
      (case ha_Field_change_refusal => k_is)
      (case hi_Field_change_refusal => k_is)
      (case hl_Field_change_refusal => k_is)
      (case he_Field_change_refusal => k_is)
      (case hk_Field_change_refusal => k_is)
      (case ha_Field_needs_window => k_is)
      (case hi_Field_needs_window => k_is)
      (case hl_Field_needs_window => k_is)
      (case he_Field_needs_window => k_is)
      (case hk_Field_needs_window => k_is)
      (case ha_Field_take_window => k_is)
      (case hi_Field_take_window => k_is)
      (case hl_Field_take_window => k_is)
      (case he_Field_take_window => k_is)
      (case hk_Field_take_window => k_is)
      (case ha_Field_goal => k_is)
      (case hi_Field_goal => k_is)
      (case hl_Field_goal => k_is)
      (case he_Field_goal => k_is)
      (case hk_Field_goal => k_is)
      (case ha_Kicks_init => k_is)
      (case hi_Kicks_init => k_is)
      (case hl_Kicks_init => k_is)
      (case he_Kicks_init => k_is)
      (case hk_Kicks_init => k_is)
      (case ha_Kicks_all_taken => k_is)
      (case hi_Kicks_all_taken => k_is)
      (case hl_Kicks_all_taken => k_is)
      (case he_Kicks_all_taken => k_is)
      (case hk_Kicks_all_taken => k_is)
      (case ha_Kicks_round_is_done => k_is)
      (case hi_Kicks_round_is_done => k_is)
      (case hl_Kicks_round_is_done => k_is)
      (case he_Kicks_round_is_done => k_is)
      (case hk_Kicks_round_is_done => k_is)
      (case ha_Kicks_must_wait => k_is)
      (case hi_Kicks_must_wait => k_is)
      (case hl_Kicks_must_wait => k_is)
      (case he_Kicks_must_wait => k_is)
      (case hk_Kicks_must_wait => k_is)
      (case ha_Kicks_take => k_is)
      (case hi_Kicks_take => k_is)
      (case hl_Kicks_take => k_is)
      (case he_Kicks_take => k_is)
      (case hk_Kicks_take => k_is)
      (case ha_Kicks_decided_for => k_is)
      (case hi_Kicks_decided_for => k_is)
      (case hl_Kicks_decided_for => k_is)
      (case he_Kicks_decided_for => k_is)
      (case hk_Kicks_decided_for => k_is)
      (case ha_Kicks_left => k_is)
      (case hi_Kicks_left => k_is)
      (case hl_Kicks_left => k_is)
      (case he_Kicks_left => k_is)
      (case hk_Kicks_left => k_is)
      (case ha_Game_init => k_is)
      (case hi_Game_init => k_is)
      (case hl_Game_init => k_is)
      (case he_Game_init => k_is)
      (case hk_Game_init => k_is)
      (case ha_Game_kick => k_is)
      (case hi_Game_kick => k_is)
      (case hl_Game_kick => k_is)
      (case he_Game_kick => k_is)
      (case hk_Game_kick => k_is)
      (case ha_Game_tick => k_is)
      (case hi_Game_tick => k_is)
      (case hl_Game_tick => k_is)
      (case he_Game_tick => k_is)
      (case hk_Game_tick => k_is)
      (case ha_Game_stop => k_is)
      (case hi_Game_stop => k_is)
      (case hl_Game_stop => k_is)
      (case he_Game_stop => k_is)
      (case hk_Game_stop => k_is)
      (case ha_Game_whistle => k_is)
      (case hi_Game_whistle => k_is)
      (case hl_Game_whistle => k_is)
      (case he_Game_whistle => k_is)
      (case hk_Game_whistle => k_is)
      (case ha_Game_settle => k_is)
      (case hi_Game_settle => k_is)
      (case hl_Game_settle => k_is)
      (case he_Game_settle => k_is)
      (case hk_Game_settle => k_is)
      (case ha_Game_card => k_is)
      (case hi_Game_card => k_is)
      (case hl_Game_card => k_is)
      (case he_Game_card => k_is)
      (case hk_Game_card => k_is)
      (case ha_Game_change => k_is)
      (case hi_Game_change => k_is)
      (case hl_Game_change => k_is)
      (case he_Game_change => k_is)
      (case hk_Game_change => k_is)
      (case ha_Game_goal => k_is)
      (case hi_Game_goal => k_is)
      (case hl_Game_goal => k_is)
      (case he_Game_goal => k_is)
      (case hk_Game_goal => k_is)
      (case ha_Game_first => k_is)
      (case hi_Game_first => k_is)
      (case hl_Game_first => k_is)
      (case he_Game_first => k_is)
      (case hk_Game_first => k_is)
      (case ha_Game_shoot => k_is)
      (case hi_Game_shoot => k_is)
      (case hl_Game_shoot => k_is)
      (case he_Game_shoot => k_is)
      (case hk_Game_shoot => k_is)
      (case ha_Game_shoot_refusal => k_is)
      (case hi_Game_shoot_refusal => k_is)
      (case hl_Game_shoot_refusal => k_is)
      (case he_Game_shoot_refusal => k_is)
      (case hk_Game_shoot_refusal => k_is)
      (case ha_Game_score => k_is)
      (case hi_Game_score => k_is)
      (case hl_Game_score => k_is)
      (case he_Game_score => k_is)
      (case hk_Game_score => k_is)
      (case ha_Game_on => k_is)
      (case hi_Game_on => k_is)
      (case hl_Game_on => k_is)
      (case he_Game_on => k_is)
      (case hk_Game_on => k_is)
      (case ha_Game_minute => k_is)
      (case hi_Game_minute => k_is)
      (case hl_Game_minute => k_is)
      (case he_Game_minute => k_is)
      (case hk_Game_minute => k_is)
      (case ha_answers => k_is)
      (case hl_answers => k_is)
      (case he_answers => k_is)
      (case hk_answers => k_is)
      (case ha_numbers_of => k_is)
      (case hl_numbers_of => k_is)
      (case he_numbers_of => k_is)
      (case hk_numbers_of => k_is)
      (case ha_answer_of => k_is)
      (case hl_answer_of => k_is)
      (case he_answer_of => k_is)
      (case hk_answer_of => k_is)
    obtain ⟨a, T, B⟩ := T
    have e0 := hmg.symm.trans T.m_answers
    cases e0
    exact ⟨a.d_answers, B, fun base kb nb => MK.ok_top T⟩

