import PyProof.Rows.All
import Wide.All
import OpenK.AllK
import Wide.FinOn
import Lean
import PyProof.EqAt
import PyProof.EqKinds
import PyProof.TupleCall
import KE.KStateDown
import PySem.SetTable
import PyProof.TupleKey
import PyProof.SetKind
import PyProof.Rows.SetFrom
import PyProof.SetRoads
import PyProof.StrOps2
import PyProof.Conv_int_bool
import PyProof.ReprStr
import PySem.Challenge.RW_cheapread_k21_no_words
set_option bootstrap.genMatcherCode false
set_option Elab.async false
set_option linter.all false
set_option maxRecDepth 100000
namespace L2
open PySem PySem.Spec PyProof.Rows
noncomputable abbrev Key := Sum Int Str
noncomputable def keyIs : Key → Value → Bool
  | .inl k, v => Value.isInt k v
  | .inr x, v => Value.isStrOf x v
noncomputable def keyH (w : World) : Key → Int
  | .inl k => hashInt k
  | .inr x => hashStr w x
theorem keyIs_shape : ∀ {k : Key} {v : Value}, keyIs k v = true → (∃ i t, k = Sum.inl i ∧ v = Value.int i t) ∨ (∃ x t, k = Sum.inr x ∧ v = Value.str x t)
  | .inl i, v, h => by
    obtain ⟨t, e⟩ := Value.isInt_shape (k := i) (v := v) h
    exact .inl ⟨i, t, rfl, e⟩
  | .inr x, v, h => by
    obtain ⟨t, e⟩ := Value.isStrOf_shape (x := x) (v := v) h
    exact .inr ⟨x, t, rfl, e⟩
theorem keyIs_int (i : Int) (t : Tok) : keyIs (.inl i) (.int i t) = true := by simp [keyIs, Value.isInt]
theorem keyIs_str (x : Str) (t : Tok) : keyIs (.inr x) (.str x t) = true := by simp [keyIs, Value.isStrOf]
theorem key_ll (a b : Int) : decide ((Sum.inl a : Key) = Sum.inl b) = (a == b) := by
  by_cases e : a = b
  · subst e; simp
  · have h : ¬ (Sum.inl a : Key) = Sum.inl b := fun q => e (Sum.inl.inj q)
    rw [decide_eq_false h]
    exact (beq_eq_false_iff_ne.mpr e).symm
theorem key_rr (a b : Str) : decide ((Sum.inr a : Key) = Sum.inr b) = decide (a = b) := by
  by_cases e : a = b
  · subst e; simp
  · have h : ¬ (Sum.inr a : Key) = Sum.inr b := fun q => e (Sum.inr.inj q)
    rw [decide_eq_false h, decide_eq_false e]
theorem key_lr (a : Int) (b : Str) : decide ((Sum.inl a : Key) = Sum.inr b) = false := decide_eq_false (fun q => nomatch q)
theorem key_rl (a : Str) (b : Int) : decide ((Sum.inr a : Key) = Sum.inl b) = false := decide_eq_false (fun q => nomatch q)
noncomputable def mixKind (prog : Program) (w : World) : PySem.KeyKind prog w Key where
  is := keyIs
  hash := keyH w
  inj := fun v a b ha hb => by
    rcases keyIs_shape ha with ⟨i, t, rfl, rfl⟩ | ⟨x, t, rfl, rfl⟩
    · rcases keyIs_shape hb with ⟨j, u, rfl, e⟩ | ⟨y, u, rfl, e⟩
      · injection e with e1 _; rw [e1]
      · exact nomatch e
    · rcases keyIs_shape hb with ⟨j, u, rfl, e⟩ | ⟨y, u, rfl, e⟩
      · exact nomatch e
      · injection e with e1 _; rw [e1]
  byValue := fun k v h => by
    rcases keyIs_shape h with ⟨i, t, rfl, rfl⟩ | ⟨x, t, rfl, rfl⟩ <;> rfl
  pyHash := fun hv h => by
    rcases keyIs_shape hv with ⟨i, t, rfl, rfl⟩ | ⟨x, t, rfl, rfl⟩
    · exact wpAny_pyHash_int h
    · exact wpAny_pyHash_str h
  eqBool := fun hu hv h => by
    rcases keyIs_shape hu with ⟨i, t, rfl, rfl⟩ | ⟨x, t, rfl, rfl⟩
    · rcases keyIs_shape hv with ⟨j, u, rfl, rfl⟩ | ⟨y, u, rfl, rfl⟩
      · rw [key_ll] at h; exact wpAny_eqBool_int h
      · rw [key_lr] at h; exact SeqAt.EqAt.int_str i t y u _ _ _ _ h
    · rcases keyIs_shape hv with ⟨j, u, rfl, rfl⟩ | ⟨y, u, rfl, rfl⟩
      · rw [key_rl] at h; exact SeqAt.EqAt.str_int x t j u _ _ _ _ h
      · rw [key_rr] at h; exact wpAny_eqBool_str h
  «strs» := fun k x t v h => by
    rcases keyIs_shape h with ⟨i, u, rfl, e⟩ | ⟨y, u, rfl, e⟩
    · exact nomatch e
    · injection e with e1 _
      subst e1
      cases v <;> rfl
theorem mixKind_int (prog : Program) (w : World) (i : Int) (t : Tok) : (mixKind prog w).is (.inl i) (.int i t) = true := keyIs_int i t
theorem mixKind_str (prog : Program) (w : World) (x : Str) (t : Tok) : (mixKind prog w).is (.inr x) (.str x t) = true := keyIs_str x t
end L2
namespace L2
open PySem PySem.Spec PyProof.Rows
inductive V where
  | non | bl (b : Bool) | int (i : Int) | str (x : Str) | byt (b : Array UInt8) | flt (b : UInt64) | ref (a : Addr) | ty (n : String)
  deriving DecidableEq
noncomputable def RelV : V → Value → Prop
  | .non, u => u = Value.none
  | .bl b, u => u = Value.bool b
  | .int i, u => ∃ t, u = Value.int i t
  | .str x, u => ∃ t, u = Value.str x t
  | .byt b, u => ∃ t, u = Value.bytes b t
  | .flt b, u => ∃ t, u = Value.float b t
  | .ref a, u => u = Value.ref a
  | .ty n, u => u = Value.type n
noncomputable abbrev Vals : List V → List Value → Prop := Paired RelV
theorem Vals.length {xs : List V} {us : List Value} (r : Vals xs us) : xs.length = us.length := Paired.length r
theorem Vals.get : ∀ {xs : List V} {us : List Value} {i : Nat} {x : V}, Vals xs us → xs[i]? = some x → ∃ u, us[i]? = some u ∧ RelV x u
  | _, _, _, _, .nil, e => by simp at e
  | _, _, 0, _, .cons r _, e => by simp at e; subst e; exact ⟨_, rfl, r⟩
  | _, _, i + 1, x, .cons _ t, e => by
    obtain ⟨u, h1, h2⟩ := Vals.get (i := i) (x := x) t (by simpa using e)
    exact ⟨u, by simpa using h1, h2⟩
theorem Vals.set {x : V} {u : Value} (r : RelV x u) : ∀ {xs : List V} {us : List Value} (i : Nat), Vals xs us → Vals (xs.set i x) (us.set i u)
  | _, _, _, .nil => .nil
  | _, _, 0, .cons _ t => .cons r t
  | _, _, i + 1, .cons q t => .cons q (Vals.set r i t)
theorem Vals.append : ∀ {xs ys : List V} {us ws : List Value}, Vals xs us → Vals ys ws → Vals (xs ++ ys) (us ++ ws)
  | _, _, _, _, .nil, s => s
  | _, _, _, _, .cons r t, s => .cons r (Vals.append t s)
theorem Vals.take : ∀ {xs : List V} {us : List Value} (n : Nat), Vals xs us → Vals (xs.take n) (us.take n)
  | _, _, 0, _ => .nil
  | _, _, _ + 1, .nil => .nil
  | _, _, n + 1, .cons r t => .cons r (Vals.take n t)
theorem Vals.drop : ∀ {xs : List V} {us : List Value} (n : Nat), Vals xs us → Vals (xs.drop n) (us.drop n)
  | _, _, 0, r => r
  | _, _, _ + 1, .nil => .nil
  | _, _, n + 1, .cons _ t => Vals.drop n t
noncomputable def RelO : Option V → Option Value → Prop
  | some v, some u => RelV v u
  | none, none => True
  | _, _ => False
noncomputable def KV {κ : Type} : List (κ × V) → List (κ × Value) → Prop := Paired fun (p : κ × V) (q : κ × Value) => p.1 = q.1 ∧ RelV p.2 q.2
noncomputable def kV : Key → V
  | .inl i => .int i
  | .inr x => .str x
inductive HO where
    | lst (xs : List V)
    | tup (xs : List V)
    | dK (kvs : List (Key × V)) | dT (kvs : List (List Key × V))
    | set (S : Int → Bool) (n : Nat)
    | ins (C dx : Addr) (fs : List (Str × V))
    | own (x : Addr)
    | xd (fs : List (Str × V))
    | met (f x : Addr)
    | rng (lo hi : Int)
    | frz (o : Obj) (u : HO)
    | tbl (ps : Array Value)
    | ext (φ : Heap → Prop)
noncomputable abbrev Hp := Addr → Option HO
noncomputable def upd (H : Hp) (a : Addr) (o : HO) : Hp := fun b => if b = a then some o else H b
theorem upd_same {H : Hp} {a : Addr} {o : HO} : upd H a o a = some o := by unfold upd; rw [if_pos rfl]
theorem upd_ne {H : Hp} {a b : Addr} {o : HO} (h : b ≠ a) : upd H a o b = H b := by unfold upd; rw [if_neg h]
theorem ne_of {H : Hp} {a b : Addr} {o u : HO} (h : H a = some o) (h' : H b = some u) (d : o ≠ u) : a ≠ b := by
  intro e; subst e; rw [h] at h'; exact d (Option.some.inj h')
theorem ne_of_none {H : Hp} {a b : Addr} {o : HO} (h : H a = some o) (h' : H b = none) : a ≠ b := by
  intro e; subst e; rw [h] at h'; cases h'
section
variable (P : Program) (w : World)
noncomputable def ObjOk (H : Hp) (h : Heap) (a : Addr) : HO → Prop
  | .lst xs => xs.length ≤ sizeLine ∧ ∃ (its : List Value) (n : Nat), Vals xs its ∧ h.get? a = some { cls := .type "list", data := .seq its.toArray n }
  | .tup xs => xs.length ≤ sizeLine ∧ ∃ its : List Value, Vals xs its ∧ IsTup h a its.toArray
  | .dK kvs => kvs.length ≤ sizeLine ∧ (a == sysModules) = false ∧ ∃ vs, KV kvs vs ∧ h.DictOf (mixKind P w) a vs
  | .dT kvs => kvs.length ≤ sizeLine ∧ (a == sysModules) = false ∧ ∃ xs : List (List Key × Addr × Value),
      Paired (fun (p : List Key × V) (q : List Key × Addr × Value) => p.1 = q.1 ∧ H q.2.1 = some (.tup (p.1.map kV)) ∧ RelV p.2 q.2.2) kvs xs ∧
      ∃ o es ep, h.get? a = some o ∧ o.ExactDict ∧ o.data = .dict es ep ∧ es.toList = xs.map (entryOfKey (tupleKind (mixKind P w))) ∧ (xs.map (·.1)).Nodup
  | .set S n => h.SetOf (intKind P w) a S n
  | .ins C dx fs => H dx = some (.own a) ∧ fs.length ≤ 1000 ∧ dx ≠ a ∧ h.get? a = some (PySem.W.instObj C dx) ∧
      ∃ mA, h.Ns1 dx mA ∧ (∀ f, RelO (fs.lookup f) (mA f)) ∧ PySem.Within mA (fs.map (·.1))
  | .own _ => ∃ o, h.get? a = some o
  | .xd fs => ∃ mA, h.Ns1 a mA ∧ ∀ f, RelO (fs.lookup f) (mA f)
  | .rng lo hi => ∃ t u v, h.get? a = some { cls := .type "range", data := .fields #[.int lo t, .int hi u, .int 1 v] }
  | .frz o u => h.get? a = some o ∧ ObjOk H h a u
  | .tbl ps => h.get? a = some { cls := .none, data := .fields ps }
  | .met f x => h.get? a = some (PySem.W.methodObj (.ref f) (.ref x))
  | .ext φ => φ h ∧ (∃ o, h.get? a = some o) ∧ ∀ h1 h2 : Heap, φ h1 → (∀ o, h1.get? a = some o → h2.get? a = some o) → φ h2
noncomputable def HOk (H : Hp) (h : Heap) : Prop := ∀ a o, H a = some o → ObjOk P w H h a o
end
section
variable {P : Program} {w : World} {H H' : Hp} {h h' : Heap} {a : Addr} {o : HO}
theorem ObjOk.lt (x : ObjOk P w H h a o) : a < h.objs.size := by
  cases o with
  | lst xs => obtain ⟨_, _, _, _, e⟩ := x; exact Heap.lt_size e
  | tup xs => obtain ⟨_, _, _, p⟩ := x; exact p.lt
  | dK kvs => obtain ⟨_, _, _, _, o, _, _, e, _⟩ := x; exact Heap.lt_size e
  | dT kvs => obtain ⟨_, _, _, _, o, _, _, e, _⟩ := x; exact Heap.lt_size e
  | set S n => obtain ⟨o, _, _, _, e, _⟩ := x; exact Heap.lt_size e
  | ins C dx fs => obtain ⟨_, _, _, e, _⟩ := x; exact Heap.lt_size e
  | own y => obtain ⟨_, e⟩ := x; exact Heap.lt_size e
  | xd fs => obtain ⟨_, ⟨_, _, _, e, _⟩, _⟩ := x; exact Heap.lt_size e
  | rng lo hi => obtain ⟨_, _, _, e⟩ := x; exact Heap.lt_size e
  | frz ob u => obtain ⟨e, _⟩ := x; exact Heap.lt_size e
  | tbl ps => exact Heap.lt_size (show h.get? a = some _ from x)
  | met f y => exact Heap.lt_size (show h.get? a = some _ from x)
  | ext φ => obtain ⟨_, ⟨_, e⟩, _⟩ := x; exact Heap.lt_size e
theorem Paired.mapP {α β : Type} {F G : α → β → Prop} : ∀ {l₁ : List α} {l₂ : List β}, Paired F l₁ l₂ → (∀ a b, F a b → G a b) → Paired G l₁ l₂
  | _, _, .nil, _ => .nil
  | _, _, .cons r t, f => .cons (f _ _ r) (Paired.mapP t f)
theorem ObjOk.stay (x : ObjOk P w H h a o) (k : ∀ b u, (b = a ∨ H b = some (.own a)) → h.get? b = some u → h'.get? b = some u)
    (ho : ∀ b, H b = some (.own a) → H' b = some (.own a)) (ht : ∀ b xs, H b = some (.tup xs) → H' b = some (.tup xs)) : ObjOk P w H' h' a o := by
  induction o with
  | lst xs => obtain ⟨z, its, n, r, e⟩ := x; exact ⟨z, its, n, r, k _ _ (.inl rfl) e⟩
  | tup xs => obtain ⟨z, its, r, ob, e, c⟩ := x; exact ⟨z, its, r, ob, k _ _ (.inl rfl) e, c⟩
  | dK kvs => obtain ⟨z, y, vs, r, ob, es, ep, e, c⟩ := x; exact ⟨z, y, vs, r, ob, es, ep, k _ _ (.inl rfl) e, c⟩
  | dT kvs =>
    obtain ⟨z, y, xs, r, ob, es, ep, e, c⟩ := x
    exact ⟨z, y, xs, Paired.mapP r fun p q z => ⟨z.1, ht _ _ z.2.1, z.2.2⟩, ob, es, ep, k _ _ (.inl rfl) e, c⟩
  | set S n => obtain ⟨ob, es, ep, t, e, c⟩ := x; exact ⟨ob, es, ep, t, k _ _ (.inl rfl) e, c⟩
  | ins C dx fs =>
    obtain ⟨d, z, ne, e, mA, ⟨od, es, ep, e2, c⟩, r⟩ := x
    exact ⟨ho _ d, z, ne, k _ _ (.inl rfl) e, mA, ⟨od, es, ep, k _ _ (.inr d) e2, c⟩, r⟩
  | own y => obtain ⟨ob, e⟩ := x; exact ⟨ob, k _ _ (.inl rfl) e⟩
  | xd fs => obtain ⟨mA, ⟨od, es, ep, e, c⟩, r⟩ := x; exact ⟨mA, ⟨od, es, ep, k _ _ (.inl rfl) e, c⟩, r⟩
  | rng lo hi => obtain ⟨t, u, v, e⟩ := x; exact ⟨t, u, v, k _ _ (.inl rfl) e⟩
  | frz ob u ih => obtain ⟨e, q⟩ := x; exact ⟨k _ _ (.inl rfl) e, ih q⟩
  | tbl ps =>
    have e : h.get? a = some { cls := .none, data := .fields ps } := x
    show h'.get? a = some { cls := .none, data := .fields ps }
    exact k a _ (.inl rfl) e
  | met f y =>
    have e : h.get? a = some (PySem.W.methodObj (.ref f) (.ref y)) := x
    show h'.get? a = some (PySem.W.methodObj (.ref f) (.ref y))
    exact k a _ (.inl rfl) e
  | ext φ => obtain ⟨p, ⟨o, e⟩, st⟩ := x; exact ⟨st _ _ p fun o q => k _ _ (.inl rfl) q, ⟨o, k _ _ (.inl rfl) e⟩, st⟩
theorem HOk.lt (x : HOk P w H h) (e : H a = some o) : a < h.objs.size := (x a o e).lt
theorem HOk.fresh (x : HOk P w H h) (e : h.objs.size ≤ a) : H a = none := by
  cases q : H a with
  | none => rfl
  | some u => exact absurd (Nat.lt_of_lt_of_le (x.lt q) e) (Nat.lt_irrefl _)
theorem HOk.kept (x : HOk P w H h) (k : ∀ b u, h.get? b = some u → h'.get? b = some u) : HOk P w H h' := fun a o e =>
  (x a o e).stay (fun b u _ q => k b u q) (fun _ q => q) fun _ _ q => q
theorem HOk.laid (x : HOk P w H h) (k : ∀ b u, h.get? b = some u → h'.get? b = some u) (hp : h.objs.size ≤ a) (new : ObjOk P w (upd H a o) h' a o) : HOk P w (upd H a o) h' := fun b u e => by
  have hn := x.fresh hp
  by_cases hb : b = a
  · subst hb; rw [upd_same] at e; cases e; exact new
  · rw [upd_ne hb] at e
    exact (x b u e).stay (fun c v _ q => k c v q) (fun c q => by rw [upd_ne (ne_of_none q hn)]; exact q) fun c xs q => by rw [upd_ne (ne_of_none q hn)]; exact q
end
noncomputable def Rd (H : Hp) (a : Addr) (u : HO) : Prop := H a = some u ∨ ∃ o, H a = some (.frz o u)
theorem Rd.ok {P : Program} {w : World} {H : Hp} {h : Heap} {a : Addr} {u : HO} (r : Rd H a u) (x : HOk P w H h) : ObjOk P w H h a u := by
  rcases r with r | ⟨o, r⟩
  · exact x a u r
  · obtain ⟨_, q⟩ := x a _ r
    exact q
noncomputable def Mut : Option HO → Prop
  | some (.lst _) => True
  | some (.dK _) => True
  | some (.dT _) => True
  | some (.set _ _) => True
  | some (.ins _ _ _) => True
  | some (.ext _) => True
  | _ => False
section
variable {P : Program} {w : World} {H : Hp} {h h' : Heap} {x e : Addr} {o' : HO}
theorem HOk.write (ok : HOk P w H h) (mu : Mut (H x)) (he : e = x ∨ H e = some (.own x)) (k : ∀ b u, b ≠ e → h.get? b = some u → h'.get? b = some u) (heo : ∃ u, h'.get? e = some u)
    (new : ObjOk P w (upd H x o') h' x o') : HOk P w (upd H x o') h' := fun b u q => by
  have nown : ∀ c y, H c = some (.own y) → c ≠ x := fun c y r z => by subst z; rw [r] at mu; exact mu
  have ntup : ∀ c xs, H c = some (.tup xs) → c ≠ x := fun c xs r z => by subst z; rw [r] at mu; exact mu
  by_cases hb : b = x
  · subst hb; rw [upd_same] at q; cases q; exact new
  · rw [upd_ne hb] at q
    by_cases hbe : b = e
    · have q' : H b = some (.own x) := by
        rcases he with z | z
        · exact absurd (hbe.trans z) hb
        · rw [hbe]; exact z
      rw [q] at q'; cases q'
      obtain ⟨v, hv⟩ := heo
      exact ⟨v, by rw [hbe]; exact hv⟩
    · refine (ok b u q).stay (fun c v hc r => k c v ?_ r) (fun c r => by rw [upd_ne (nown c b r)]; exact r) fun c xs r => by rw [upd_ne (ntup c xs r)]; exact r
      rcases hc with rfl | hc
      · exact hbe
      · rintro rfl
        rcases he with z | z
        · exact nown c b hc z
        · rw [hc] at z; cases z; exact hb rfl
end
structure Un (fs ex : List Addr) (H H' : Hp) (h h' : Heap) : Prop where
  keep : ∀ b o, h.get? b = some o → H b = none → b ∉ fs → b ∉ ex → h'.get? b = some o
  slot : ∀ b o, h.get? b = some o → H b = none → b ∈ fs → b ∉ ex → ∃ sl, h'.get? b = some { o with slots := sl }
  free : ∀ b o, h.get? b = some o → H b = none → b ∉ ex → H' b = none
  there : ∀ b o, h.get? b = some o → b ∉ ex → ∃ o', h'.get? b = some o'
  tups : ∀ b xs, H b = some (.tup xs) → H' b = some (.tup xs)
  frzs : ∀ b o u, H b = some (.frz o u) → H' b = some (.frz o u)
  tbls : ∀ b ps, H b = some (.tbl ps) → ∃ more, H' b = some (.tbl (ps ++ more))
section
variable {fs fs' ex ex' : List Addr} {H H1 H2 : Hp} {h h1 h2 h' : Heap} {a x e : Addr} {o : HO}
theorem Un.any (u : Un fs ex H H1 h h1) {b : Addr} {ob : Obj} (q : h.get? b = some ob) (n : H b = none) (hx : b ∉ ex) : ∃ sl, h1.get? b = some { ob with slots := sl } := by
  by_cases hb : b ∈ fs
  · exact u.slot b ob q n hb hx
  · exact ⟨ob.slots, u.keep b ob q n hb hx⟩
theorem Un.kept (k : ∀ b u, h.get? b = some u → h'.get? b = some u) : Un fs ex H H h h' :=
  ⟨fun b ob q _ _ _ => k b ob q, fun b ob q _ _ _ => ⟨ob.slots, k b ob q⟩, fun _ _ _ n _ => n, fun b ob q _ => ⟨ob, k b ob q⟩, fun _ _ q => q, fun _ _ _ q => q, fun _ ps q => ⟨#[], by rw [q]; simp⟩⟩
theorem Un.refl : Un fs ex H H h h := Un.kept fun _ _ q => q
theorem Un.laid (k : ∀ b u, h.get? b = some u → h'.get? b = some u) (hp : h.objs.size ≤ a) (hn : H a = none) : Un fs ex H (upd H a o) h h' where
  keep := fun b u q _ _ _ => k b u q
  slot := fun b u q _ _ _ => ⟨u.slots, k b u q⟩
  free := fun b u q n _ => by rw [upd_ne (Nat.ne_of_lt (Nat.lt_of_lt_of_le (Heap.lt_size q) hp))]; exact n
  there := fun b u q _ => ⟨u, k b u q⟩
  tups := fun b xs q => by rw [upd_ne (ne_of_none q hn)]; exact q
  frzs := fun b u xs q => by rw [upd_ne (ne_of_none q hn)]; exact q
  tbls := fun b ps q => ⟨#[], by rw [upd_ne (ne_of_none q hn), q]; simp⟩
theorem Un.write (mu : Mut (H x)) (he : e = x ∨ H e = some (.own x)) (k : ∀ b u, b ≠ e → h.get? b = some u → h'.get? b = some u) (heo : ∃ u, h'.get? e = some u) : Un fs ex H (upd H x o) h h' := by
  have hx : ∀ b, H b = none → b ≠ x := fun b n z => by subst z; rw [n] at mu; exact mu
  have hb : ∀ b, H b = none → b ≠ e := fun b n z => by
    subst z
    rcases he with r | r
    · exact hx b n r
    · rw [n] at r; cases r
  have hm : ∀ b u, H b = some u → ¬ Mut (some u) → b ≠ x := fun b u q nm z => by subst z; rw [q] at mu; exact nm mu
  refine ⟨fun b u q n _ _ => k b u (hb b n) q, fun b u q n _ _ => ⟨u.slots, k b u (hb b n) q⟩, fun b u q n _ => by rw [upd_ne (hx b n)]; exact n, fun b u q _ => ?_,
    fun b xs q => by rw [upd_ne (hm b _ q fun z => z)]; exact q, fun b u xs q => by rw [upd_ne (hm b _ q fun z => z)]; exact q, fun b ps q => ⟨#[], by rw [upd_ne (hm b _ q fun z => z), q]; simp⟩⟩
  by_cases hbe : b = e
  · subst hbe; exact heo
  · exact ⟨u, k b u hbe q⟩
end
noncomputable def trk (h : Heap) (H : Hp) : List Addr := (List.range h.objs.size).filter fun a => (H a).isSome
noncomputable def hidT (h : Heap) (H : Hp) : Heap := PySem.W.hideAll h (trk h H)
theorem hidT_size (h : Heap) (H : Hp) : (hidT h H).objs.size = h.objs.size := PySem.W.hideAll_size _ _
theorem hidT_get {h : Heap} {H : Hp} {b : Addr} {o : Obj} (e : h.get? b = some o) (n : H b = none) : (hidT h H).get? b = some o :=
  PySem.W.hideAll_get _ e fun hm => by
    have q : (H b).isSome = true := (List.mem_filter.mp hm).2
    rw [n] at q; simp at q
theorem of_hidT {h : Heap} {H : Hp} {b : Addr} {o : Obj} (e : (hidT h H).get? b = some o) : h.get? b = some o ∧ H b = none := by
  have e' : h.get? b = some o := PySem.W.of_hideAll (trk h H) e
  refine ⟨e', ?_⟩
  cases q : H b with
  | none => rfl
  | some x =>
    have hm : b ∈ trk h H := List.mem_filter.mpr ⟨List.mem_range.mpr (Heap.lt_size e'), by simp [q]⟩
    have z : (hidT h H).get? b = none := PySem.W.hideAll_none (trk h H) hm
    rw [z] at e; cases e
end L2
namespace L2
open PySem PySem.Spec PyProof.Rows
structure Mod (K : PySem.W.Frag) (mg : Str → Option Value) (base : Heap) : Prop where
  kin : K.In base
  glob : base.Ns mainGlobals mg
  blt : ∃ mb, base.Ns builtinsNs mb ∧ ∀ x : Str, x ≠ "__name__" → mb x = bootBuiltins x
  nolimit : base.NoLimit
structure Cx where
  prog : Program
  w : World
  K : PySem.W.Frag
  mg : Str → Option Value
  base : Heap
  A : Around
  N : List Str
  s₀ : Shared
  H₀ : Hp
  env : Env
  outer : List Env
  stack : List Env
  ex : List Addr
  fn : Str → Bool
  calm : Bool
  pn : List (Addr × Obj)
  xe : Value → Shared → Prop
noncomputable def frs (l : List Env) : List Addr := l.filterMap (·.frame)
noncomputable abbrev Cx.fs (X : Cx) : List Addr := frs X.outer
noncomputable def Vis (sc : Scope) (x : Str) : Prop := sc.names.lookup x = some .local ∨ sc.names.lookup x = some .cell ∨ sc.names.lookup x = some .free
noncomputable def Loc (sc : Scope) (x : Str) : Prop := sc.names.lookup x = some .local ∨ sc.names.lookup x = some .cell
noncomputable def Look (env : Env) (h : Heap) (m : Str → Option Value) (x : Str) (u : Value) : Prop :=
  (env.kindOf x = some .local ∧ m x = some u) ∨ ((env.kindOf x = some .cell ∨ env.kindOf x = some .free) ∧ ∃ c, env.cells.lookup x = some c ∧ h.IsCell c (some u))
structure Cx.Ok (X : Cx) : Prop where
  mod : Mod X.K X.mg X.base
  kind : X.env.scope.kind = .function
  glob : X.env.globals = mainGlobals
  blt : X.env.builtins = builtinsNs
  above : X.s₀.heap.objs.size ≤ X.env.locals
  inj : ∀ x y c, X.env.cells.lookup x = some c → X.env.cells.lookup y = some c → x = y
  has : ∀ x, (X.env.kindOf x = some .cell ∨ X.env.kindOf x = some .free) → ∃ c, X.env.cells.lookup x = some c
  cab : ∀ x c, X.fn x = true → X.env.cells.lookup x = some c → X.s₀.heap.objs.size ≤ c
  hd : X.calm = true → X.A.handled = none
  frames : X.A.frames = some X.stack
  stk : X.stack = X.outer ∨ (X.stack = X.env :: X.outer ∧ X.env.frame = some X.env.locals)
  exf : ∀ b ∈ X.ex, b ≠ X.env.locals ∧ ∀ x c, X.env.cells.lookup x = some c → c ≠ b
  bs : ∀ b o, X.base.get? b = some o → X.s₀.heap.get? b = some o ∧ X.H₀ b = none
  bsz : X.base.objs.size ≤ X.s₀.heap.objs.size
  noex : ∀ b o, X.base.get? b = some o → b ∉ X.ex
  exfs : ∀ b ∈ X.ex, b ∉ X.fs
  funs : X.s₀.heap.FunFrames X.base X.outer
  frf : ∀ b ∈ X.fs, X.H₀ b = none
structure Inv (X : Cx) (pins : List (Addr × Obj)) (σ : List (Option V)) (H : Hp) (s : Shared) : Prop where
  ok : X.Ok
  os : s.os = X.s₀.os
  bare : AllBare s.gens
  base : Un X.fs X.ex X.H₀ H X.s₀.heap s.heap
  loc : ∃ m, s.heap.Ns X.env.locals m ∧ ∀ (i : Nat) (x : Str) (v : V), X.N[i]? = some x → σ[i]? = some (some v) → Vis X.env.scope x → ∃ u, RelV v u ∧ Look X.env s.heap m x u
  cell : ∀ x c, X.env.cells.lookup x = some c → ∃ v, s.heap.IsCell c v
  free : H X.env.locals = none
  freeC : ∀ x c, X.env.cells.lookup x = some c → H c = none
  pin : ∀ p ∈ X.pn ++ pins, s.heap.get? p.1 = some p.2 ∧ H p.1 = none ∧ p.1 ≠ X.env.locals ∧ p.1 ∉ X.fs ∧ ∀ v, p.2.data ≠ .cell v
  hok : HOk X.prog X.w H s.heap
  len : σ.length = X.N.length
section
variable {X : Cx} {pins : List (Addr × Obj)} {σ : List (Option V)} {H H' : Hp} {s : Shared} {h' : Heap}
theorem Cx.Ok.nofr (ok : X.Ok) {b : Addr} {o : Obj} (e : X.base.get? b = some o) : b ∉ X.fs := fun hb => by
  have := (ok.funs.mem hb).1
  rw [e] at this; cases this
theorem Inv.bs (I : Inv X pins σ H s) : ∀ b o, X.base.get? b = some o → s.heap.get? b = some o ∧ H b = none := fun b o e =>
  ⟨I.base.keep b o (I.ok.bs b o e).1 (I.ok.bs b o e).2 (I.ok.nofr e) (I.ok.noex b o e), I.base.free b o (I.ok.bs b o e).1 (I.ok.bs b o e).2 (I.ok.noex b o e)⟩
theorem Inv.bk (I : Inv X pins σ H s) : ∀ b o, X.base.get? b = some o → s.heap.get? b = some o := fun b o e => (I.bs b o e).1
theorem Inv.mod (I : Inv X pins σ H s) : Mod X.K X.mg X.base := I.ok.mod
theorem Inv.kIn (I : Inv X pins σ H s) : X.K.In s.heap := I.ok.mod.kin.keeps I.bk
theorem Inv.lt (I : Inv X pins σ H s) : X.env.locals < s.heap.objs.size := let ⟨_, hn, _⟩ := I.loc; hn.lt
theorem Inv.sz (I : Inv X pins σ H s) : X.s₀.heap.objs.size ≤ s.heap.objs.size := Nat.le_trans I.ok.above (Nat.le_of_lt I.lt)
theorem Inv.nofs (I : Inv X pins σ H s) {a : Addr} (h : s.heap.objs.size ≤ a) : a ∉ X.fs := fun hb => by
  obtain ⟨_, o, ho, _⟩ := I.ok.funs.mem hb
  exact absurd (Nat.lt_of_lt_of_le (Heap.lt_size ho) (Nat.le_trans I.sz h)) (Nat.lt_irrefl _)
theorem Inv.cne (I : Inv X pins σ H s) : ∀ x c, X.env.cells.lookup x = some c → c ≠ X.env.locals := fun x c e z => by
  obtain ⟨v, o, ho, hd⟩ := I.cell x c e
  obtain ⟨m, ⟨o', es, ep, ho', hd', _⟩, _⟩ := I.loc
  rw [z, ho'] at ho; cases ho; rw [hd'] at hd; cases hd
theorem Inv.funs (I : Inv X pins σ H s) : s.heap.FunFrames X.base X.outer := by
  have all : ∀ (l : List Env), (∀ b ∈ frs l, b ∈ X.fs) → X.s₀.heap.FunFrames X.base l → s.heap.FunFrames X.base l := by
    intro l
    induction l with
    | nil => intro _ _; trivial
    | cons env r ih =>
      intro hs hl
      obtain ⟨hk, ⟨L, o, hf, hn, ho, hd⟩, hr⟩ := hl
      have hL : L ∈ X.fs := hs L (by unfold frs; rw [List.filterMap_cons, hf]; exact List.mem_cons_self)
      obtain ⟨sl, e⟩ := I.base.slot L o ho (I.ok.frf L hL) hL fun z => I.ok.exfs L z hL
      exact ⟨hk, ⟨L, _, hf, hn, e, hd⟩, ih (fun b hb => hs b (by unfold frs; rw [List.filterMap_cons, hf]; exact List.mem_cons_of_mem _ hb)) hr⟩
  exact all X.outer (fun _ hb => hb) I.ok.funs
theorem Inv.stack (I : Inv X pins σ H s) : s.heap.FunFrames X.base X.stack := by
  rcases I.ok.stk with e | ⟨e, hf⟩
  · rw [e]; exact I.funs
  · rw [e]
    obtain ⟨m, hn, _⟩ := I.loc
    refine .cons (by rw [I.ok.kind]; decide) hf hn ?_ I.funs
    exact Heap.get?_none_of_le (Nat.le_trans I.ok.bsz I.ok.above)
theorem Inv.stkSub (I : Inv X pins σ H s) : ∀ b ∈ frs X.stack, b ∈ X.env.locals :: X.fs := fun b hb => by
  rcases I.ok.stk with e | ⟨e, hf⟩
  · rw [e] at hb; exact List.mem_cons_of_mem _ hb
  · rw [e] at hb
    unfold frs at hb
    rw [List.filterMap_cons, hf] at hb
    exact hb
theorem Inv.stkFree (I : Inv X pins σ H s) : ∀ b ∈ frs X.stack, H b = none := fun b hb => by
  rcases List.mem_cons.mp (I.stkSub b hb) with e | hb
  · rw [e]; exact I.free
  · obtain ⟨_, o, ho, _⟩ := I.ok.funs.mem hb
    exact I.base.free b o ho (I.ok.frf b hb) fun z => I.ok.exfs b z hb
theorem Inv.step {g' : Array GenState} {t' : Nat} {d' : Drawn} {ch : List Addr} (I : Inv X pins σ H s)
    (hch : ∀ b ∈ ch, (b ∈ X.ex ∨ X.s₀.heap.objs.size ≤ b) ∧ b ≠ X.env.locals ∧ (∀ x c, X.env.cells.lookup x = some c → c ≠ b) ∧ ∀ p ∈ X.pn ++ pins, p.1 ≠ b)
    (keep : ∀ b o, b ≠ X.env.locals → b ∉ X.fs → b ∉ ch → s.heap.get? b = some o → H b = none → h'.get? b = some o)
    (slot : ∀ b o, b ≠ X.env.locals → b ∈ X.fs → b ∉ ch → s.heap.get? b = some o → H b = none → ∃ sl, h'.get? b = some { o with slots := sl }) (free : ∀ b o, b ∉ ch → s.heap.get? b = some o → H b = none → H' b = none)
    (there : ∀ b o, b ∉ ch → s.heap.get? b = some o → ∃ o', h'.get? b = some o')
    (tups : ∀ b xs, H b = some (.tup xs) → H' b = some (.tup xs)) (frzs : ∀ b o u, H b = some (.frz o u) → H' b = some (.frz o u)) (tbls : ∀ b ps, H b = some (.tbl ps) → ∃ more, H' b = some (.tbl (ps ++ more)))
    (ns : ∀ m, s.heap.Ns X.env.locals m → h'.Ns X.env.locals m) (hok : HOk X.prog X.w H' h') (hg : AllBare g') :
    Inv X pins σ H' { s with heap := h', gens := g', drawn := d', toks := t' } := by
  have neL : ∀ b o, X.s₀.heap.get? b = some o → b ≠ X.env.locals := fun b o e => Nat.ne_of_lt (Nat.lt_of_lt_of_le (Heap.lt_size e) I.ok.above)
  have neC : ∀ b o, X.s₀.heap.get? b = some o → b ∉ X.ex → b ∉ ch := fun b o e hx hb => by
    rcases (hch b hb).1 with z | z
    · exact hx z
    · exact absurd (Nat.lt_of_lt_of_le (Heap.lt_size e) z) (Nat.lt_irrefl _)
  have cellK : ∀ x c, X.env.cells.lookup x = some c → ∀ v, s.heap.IsCell c v → h'.IsCell c v := fun x c e v ⟨o, ho, hd⟩ => by
    have nch : c ∉ ch := fun z => (hch c z).2.2.1 x c e rfl
    by_cases hc : c ∈ X.fs
    · obtain ⟨sl, q⟩ := slot c o (I.cne x c e) hc nch ho (I.freeC x c e)
      exact ⟨_, q, hd⟩
    · exact ⟨o, keep c o (I.cne x c e) hc nch ho (I.freeC x c e), hd⟩
  refine ⟨I.ok, I.os, hg, ⟨fun b o e n hb hx => ?_, fun b o e n hb hx => ?_, fun b o e n hx => ?_, fun b o e hx => ?_, fun b xs e => tups b xs (I.base.tups b xs e), fun b o xs e => frzs b o xs (I.base.frzs b o xs e), fun b ps e => ?_⟩, ?_, fun x c e => ?_, ?_, fun x c e => ?_, fun p hp => ?_, hok, I.len⟩
  · exact keep b o (neL b o e) hb (neC b o e hx) (I.base.keep b o e n hb hx) (I.base.free b o e n hx)
  · obtain ⟨sl, e1⟩ := I.base.slot b o e n hb hx
    obtain ⟨sl', e2⟩ := slot b _ (neL b o e) hb (neC b o e hx) e1 (I.base.free b o e n hx)
    exact ⟨sl', e2⟩
  · obtain ⟨o', e1⟩ := I.base.there b o e hx
    exact free b o' (neC b o e hx) e1 (I.base.free b o e n hx)
  · obtain ⟨o', e1⟩ := I.base.there b o e hx
    exact there b o' (neC b o e hx) e1
  · obtain ⟨m1, e1⟩ := I.base.tbls b ps e
    obtain ⟨m2, e2⟩ := tbls b _ e1
    exact ⟨m1 ++ m2, by rw [e2, Array.append_assoc]⟩
  · obtain ⟨m, hn, hl⟩ := I.loc
    refine ⟨m, ns m hn, fun i x v e1 e2 e3 => ?_⟩
    obtain ⟨u, r, l⟩ := hl i x v e1 e2 e3
    refine ⟨u, r, ?_⟩
    rcases l with l | ⟨k, c, e, z⟩
    · exact .inl l
    · exact .inr ⟨k, c, e, cellK x c e _ z⟩
  · obtain ⟨v, z⟩ := I.cell x c e
    exact ⟨v, cellK x c e v z⟩
  · obtain ⟨m, ⟨o, _, _, ho, _⟩, _⟩ := I.loc
    exact free _ o (fun z => (hch _ z).2.1 rfl) ho I.free
  · obtain ⟨v, o, ho, hd⟩ := I.cell x c e
    exact free c o (fun z => (hch c z).2.2.1 x c e rfl) ho (I.freeC x c e)
  · obtain ⟨e, n, ne, nf, d⟩ := I.pin p hp
    have nch : p.1 ∉ ch := fun z => (hch p.1 z).2.2.2 p hp rfl
    exact ⟨keep p.1 p.2 ne nf nch e n, free p.1 p.2 nch e n, ne, nf, d⟩
theorem Inv.un {t' : Nat} (I : Inv X pins σ H s) (u : Un X.fs [] H H' s.heap h') (hok : HOk X.prog X.w H' h') : Inv X pins σ H' { s with heap := h', toks := t' } := by
  obtain ⟨m, ⟨o, es, ep, ho, r⟩, _⟩ := id I.loc
  obtain ⟨sl, hL⟩ := u.any ho I.free (by simp)
  exact I.step (g' := s.gens) (d' := s.drawn) (ch := []) (fun _ z => nomatch z) (fun b o _ hb _ e n => u.keep b o e n hb (by simp)) (fun b o _ hb _ e n => u.slot b o e n hb (by simp)) (fun b o _ e n => u.free b o e n (by simp)) (fun b o _ e => u.there b o e (by simp)) u.tups u.frzs u.tbls (fun m' hm => by
    obtain ⟨o', es', ep', ho', r'⟩ := hm
    rw [ho] at ho'; cases ho'
    exact ⟨_, es', ep', hL, r'⟩) hok I.bare
theorem Inv.call {g' : Array GenState} {t' : Nat} {d' : Drawn} {ch : List Addr} (I : Inv X pins σ H s) (u : Un (frs X.stack) ch H H' s.heap h') (hok : HOk X.prog X.w H' h') (hg : AllBare g')
    (hch : ∀ b ∈ ch, (b ∈ X.ex ∨ X.s₀.heap.objs.size ≤ b) ∧ b ≠ X.env.locals ∧ (∀ x c, X.env.cells.lookup x = some c → c ≠ b) ∧ ∀ p ∈ X.pn ++ pins, p.1 ≠ b) :
    Inv X pins σ H' { s with heap := h', gens := g', drawn := d', toks := t' } := by
  obtain ⟨m, ⟨o, es, ep, ho, r⟩, _⟩ := id I.loc
  obtain ⟨sl, hL⟩ := u.any ho I.free fun z => (hch _ z).2.1 rfl
  exact I.step (ch := ch) hch (fun b o hL hb hc e n => u.keep b o e n (fun z => (List.mem_cons.mp (I.stkSub b z)).elim hL hb) hc) (fun b o _ _ hc e n => u.any e n hc) (fun b o hc e n => u.free b o e n hc) (fun b o hc e => u.there b o e hc) u.tups u.frzs u.tbls (fun m' hm => by
    obtain ⟨o', es', ep', ho', r'⟩ := hm
    rw [ho] at ho'; cases ho'
    exact ⟨_, es', ep', hL, r'⟩) hok hg
theorem Inv.turned {t' : Nat} {it : Addr} (I : Inv X pins σ H s) (k : ∀ b o, b ≠ it → s.heap.get? b = some o → h'.get? b = some o) (hn : H it = none) (hL : it ≠ X.env.locals)
    (h1 : it ∈ X.ex ∨ X.s₀.heap.objs.size ≤ it) (h2 : ∀ x c, X.env.cells.lookup x = some c → c ≠ it) (h3 : ∀ p ∈ X.pn ++ pins, p.1 ≠ it) : Inv X pins σ H { s with heap := h', toks := t' } := by
  have nit : ∀ b u, H b = some u → b ≠ it := fun b u e z => by rw [z, hn] at e; cases e
  refine I.step (g' := s.gens) (d' := s.drawn) (ch := [it]) (fun b hb => ?_) (fun b o _ _ hc e _ => k b o (fun z => hc (by simp [z])) e) (fun b o _ _ hc e _ => ⟨o.slots, k b o (fun z => hc (by simp [z])) e⟩) (fun _ _ _ _ n => n)
    (fun b o hc e => ⟨o, k b o (fun z => hc (by simp [z])) e⟩) (fun _ _ e => e) (fun _ _ _ e => e) (fun b ps e => ⟨#[], by rw [e]; simp⟩) (fun m hm => ?_) (fun b u e => ?_) I.bare
  · have e : b = it := by simpa using hb
    subst e
    exact ⟨h1, hL, h2, h3⟩
  · obtain ⟨o, es, ep, ho, r⟩ := hm
    exact ⟨o, es, ep, k _ o (Ne.symm hL) ho, r⟩
  · refine (I.hok b u e).stay (fun c v hc q => k c v ?_ q) (fun _ q => q) fun _ _ q => q
    rcases hc with z | z
    · rw [z]; exact nit b u e
    · exact nit c _ z
theorem Inv.tok (I : Inv X pins σ H s) (t : Nat) : Inv X pins σ H { s with toks := t } := I.un (h' := s.heap) (t' := t) Un.refl I.hok
theorem Inv.kept {t' : Nat} (I : Inv X pins σ H s) (k : ∀ b u, s.heap.get? b = some u → h'.get? b = some u) : Inv X pins σ H { s with heap := h', toks := t' } := I.un (Un.kept k) (I.hok.kept k)
theorem Inv.laid {a : Addr} {o : HO} {t' : Nat} (I : Inv X pins σ H s) (k : ∀ b u, s.heap.get? b = some u → h'.get? b = some u) (hp : s.heap.objs.size ≤ a) (new : ObjOk X.prog X.w (upd H a o) h' a o) :
    Inv X pins σ (upd H a o) { s with heap := h', toks := t' } := I.un (Un.laid k hp (I.hok.fresh hp)) (I.hok.laid k hp new)
theorem Inv.write {x e : Addr} {o : HO} {t' : Nat} (I : Inv X pins σ H s) (mu : Mut (H x)) (he : e = x ∨ H e = some (.own x)) (k : ∀ b u, b ≠ e → s.heap.get? b = some u → h'.get? b = some u) (heo : ∃ u, h'.get? e = some u)
    (new : ObjOk X.prog X.w (upd H x o) h' x o) : Inv X pins σ (upd H x o) { s with heap := h', toks := t' } := I.un (Un.write mu he k heo) (I.hok.write mu he k heo new)
theorem Inv.pins_of {pins' : List (Addr × Obj)} (I : Inv X pins σ H s) (h : ∀ p ∈ pins', s.heap.get? p.1 = some p.2 ∧ H p.1 = none ∧ p.1 ≠ X.env.locals ∧ p.1 ∉ X.fs ∧ ∀ v, p.2.data ≠ .cell v) : Inv X pins' σ H s :=
  ⟨I.ok, I.os, I.bare, I.base, I.loc, I.cell, I.free, I.freeC, fun p hp => (List.mem_append.mp hp).elim (fun z => I.pin p (List.mem_append_left _ z)) (h p), I.hok, I.len⟩
theorem nodup_ix {N : List Str} (hN : N.Nodup) {i j : Nat} {x : Str} (a : N[i]? = some x) (b : N[j]? = some x) : i = j := by
  obtain ⟨h1, e1⟩ := List.getElem?_eq_some_iff.mp a
  obtain ⟨h2, e2⟩ := List.getElem?_eq_some_iff.mp b
  exact (List.getElem_inj hN).mp (e1.trans e2.symm)
theorem store_ok2 {M : Model} {A : Around} {E : Value → Shared → Prop} {i : Nat} {x : Str} {v : V} {u : Value} {Q : Unit → Shared → Prop} (I : Inv X pins σ H s) (hN : X.N.Nodup) (hi : X.N[i]? = some x) (hx : Loc X.env.scope x) (r : RelV v u)
    (h : ∀ s', Inv X pins (σ.set i (some v)) H s' → (∃ a, Heap.SameBut a s.heap s'.heap ∧ (a = X.env.locals ∨ X.env.cells.lookup x = some a)) → Q () s') (hf : X.fn x = true ∨ X.env.scope.names.lookup x = some .local := by first | exact .inl rfl | exact .inr rfl | assumption) : wpAny M A (storeName X.env x u) Q E s := by
  obtain ⟨m, hn, hl⟩ := id I.loc
  have hcls : (X.env.scope.kind == .class || (X.env.scope.kind == .module && X.env.locals != X.env.globals)) = false := by rw [I.ok.kind]; rfl
  have hiσ : i < σ.length := by rw [I.len]; exact (List.getElem?_eq_some_iff.mp hi).1
  have cne := I.cne
  have tracked : ∀ {a : Addr} {h' : Heap}, (∃ o, s.heap.get? a = some o ∧ H a = none) → Heap.SameBut a s.heap h' → HOk X.prog X.w H h' := fun {a h'} ha hs b ob e => by
    obtain ⟨_, _, hfree⟩ := ha
    refine (I.hok b ob e).stay (fun c w' hc q => (hs.2 c ?_).trans q) (fun _ q => q) fun _ _ q => q
    rintro rfl
    rcases hc with rfl | hc
    · rw [hfree] at e; cases e
    · rw [hfree] at hc; cases hc
  rcases hx with hk | hk
  · refine wpAny_storeName_local hk hn (fun h' hn' hs => ?_) hcls
    obtain ⟨oL, _, _, hoL, _⟩ := id hn
    refine h _ ⟨I.ok, I.os, I.bare, ⟨fun b o e n hb hx => ?_, fun b o e n hb hx => ?_, I.base.free, fun b o e hx => ?_, I.base.tups, I.base.frzs, I.base.tbls⟩, ⟨_, hn', fun j y v' e1 e2 e3 => ?_⟩, fun y c e => ?_, I.free, I.freeC, fun p hp => ?_, tracked ⟨oL, hoL, I.free⟩ hs, by simpa using I.len⟩ ⟨_, hs, .inl rfl⟩
    · exact (hs.2 b (Nat.ne_of_lt (Nat.lt_of_lt_of_le (Heap.lt_size e) I.ok.above))).trans (I.base.keep b o e n hb hx)
    · obtain ⟨sl, e1⟩ := I.base.slot b o e n hb hx
      exact ⟨sl, (hs.2 b (Nat.ne_of_lt (Nat.lt_of_lt_of_le (Heap.lt_size e) I.ok.above))).trans e1⟩
    · obtain ⟨o', e1⟩ := I.base.there b o e hx
      exact ⟨o', (hs.2 b (Nat.ne_of_lt (Nat.lt_of_lt_of_le (Heap.lt_size e) I.ok.above))).trans e1⟩
    · by_cases hj : j = i
      · subst hj
        rw [hi] at e1; cases e1
        rw [List.getElem?_set_self hiσ] at e2
        cases e2
        exact ⟨u, r, .inl ⟨hk, by simp⟩⟩
      · rw [List.getElem?_set_ne (Ne.symm hj)] at e2
        obtain ⟨u', r', q⟩ := hl j y v' e1 e2 e3
        refine ⟨u', r', ?_⟩
        rcases q with ⟨k, e⟩ | ⟨k, c, e, z⟩
        · refine .inl ⟨k, ?_⟩
          have : y ≠ x := fun e => hj (nodup_ix hN e1 (e ▸ hi))
          simp [this, e]
        · exact .inr ⟨k, c, e, z.sameBut hs (cne y c e)⟩
    · obtain ⟨w', z⟩ := I.cell y c e
      exact ⟨w', z.sameBut hs (cne y c e)⟩
    · obtain ⟨e, n, ne, nf, d⟩ := I.pin p hp
      exact ⟨(hs.2 p.1 ne).trans e, n, ne, nf, d⟩
  · have hfn : X.fn x = true := by
      rcases hf with z | z
      · exact z
      · rw [z] at hk; cases hk
    obtain ⟨c, hc⟩ := I.ok.has x (.inl hk)
    obtain ⟨w', z⟩ := I.cell x c hc
    refine wpAny_storeName_cell I.ok.kind hk hc z (fun h' hc' hs => ?_)
    obtain ⟨oc, hoc, hocd⟩ := id z
    refine h { s with heap := h' } ⟨I.ok, I.os, I.bare, ⟨fun b o e n hb hx => ?_, fun b o e n hb hx => ?_, I.base.free, fun b o e hx => ?_, I.base.tups, I.base.frzs, I.base.tbls⟩, ⟨m, hn.sameBut hs (Ne.symm (cne x c hc)), fun j y v' e1 e2 e3 => ?_⟩, fun y c' e => ?_, I.free, I.freeC, fun p hp => ?_, tracked ⟨oc, hoc, I.freeC x c hc⟩ hs, by simpa using I.len⟩ ⟨c, hs, .inr hc⟩
    · exact (hs.2 b (Nat.ne_of_lt (Nat.lt_of_lt_of_le (Heap.lt_size e) (I.ok.cab x c hfn hc)))).trans (I.base.keep b o e n hb hx)
    · obtain ⟨sl, e1⟩ := I.base.slot b o e n hb hx
      exact ⟨sl, (hs.2 b (Nat.ne_of_lt (Nat.lt_of_lt_of_le (Heap.lt_size e) (I.ok.cab x c hfn hc)))).trans e1⟩
    · obtain ⟨o', e1⟩ := I.base.there b o e hx
      exact ⟨o', (hs.2 b (Nat.ne_of_lt (Nat.lt_of_lt_of_le (Heap.lt_size e) (I.ok.cab x c hfn hc)))).trans e1⟩
    · by_cases hj : j = i
      · subst hj
        rw [hi] at e1; cases e1
        rw [List.getElem?_set_self hiσ] at e2
        cases e2
        exact ⟨u, r, .inr ⟨.inl hk, c, hc, hc'⟩⟩
      · rw [List.getElem?_set_ne (Ne.symm hj)] at e2
        obtain ⟨u', r', q⟩ := hl j y v' e1 e2 e3
        refine ⟨u', r', ?_⟩
        rcases q with q | ⟨k, c', e, z'⟩
        · exact .inl q
        · refine .inr ⟨k, c', e, z'.sameBut hs ?_⟩
          rintro rfl
          exact hj (nodup_ix hN e1 (I.ok.inj _ _ _ e hc ▸ hi))
    · by_cases hcc : c' = c
      · subst hcc; exact ⟨_, hc'⟩
      · obtain ⟨w2, z2⟩ := I.cell y c' e
        exact ⟨w2, z2.sameBut hs hcc⟩
    · obtain ⟨e, n, ne, nf, d⟩ := I.pin p hp
      refine ⟨(hs.2 p.1 ?_).trans e, n, ne, nf, d⟩
      intro q
      rw [q, hoc] at e
      have q' : oc = p.2 := Option.some.inj e
      exact d w' (by rw [← q']; exact hocd)
theorem store_ok {M : Model} {A : Around} {E : Value → Shared → Prop} {i : Nat} {x : Str} {v : V} {u : Value} {Q : Unit → Shared → Prop} (I : Inv X pins σ H s) (hN : X.N.Nodup) (hi : X.N[i]? = some x) (hx : Loc X.env.scope x) (r : RelV v u)
    (h : ∀ s', Inv X pins (σ.set i (some v)) H s' → Q () s') (hf : X.fn x = true ∨ X.env.scope.names.lookup x = some .local := by first | exact .inl rfl | exact .inr rfl | assumption) : wpAny M A (storeName X.env x u) Q E s :=
  store_ok2 I hN hi hx r (fun s' I' _ => h s' I') hf
theorem Inv.call' {s' : Shared} {ch : List Addr} (I : Inv X pins σ H s) (ho : s'.os = s.os) (u : Un (frs X.stack) ch H H' s.heap s'.heap) (hok : HOk X.prog X.w H' s'.heap) (hg : AllBare s'.gens)
    (hch : ∀ b ∈ ch, (b ∈ X.ex ∨ X.s₀.heap.objs.size ≤ b) ∧ b ≠ X.env.locals ∧ (∀ x c, X.env.cells.lookup x = some c → c ≠ b) ∧ ∀ p ∈ X.pn ++ pins, p.1 ≠ b) : Inv X pins σ H' s' := by
  obtain ⟨h', g', d', t', o'⟩ := s'
  have e : o' = s.os := ho
  subst e
  exact I.call (g' := g') (t' := t') (d' := d') u hok hg hch
end
noncomputable abbrev XK := Value → Option Addr → Hp → Prop
noncomputable abbrev St := List (Option V)
noncomputable abbrev VK := V → Hp → Prop
noncomputable abbrev TE := St → Hp → VK → Prop
noncomputable abbrev TT := St → Hp → (Bool → Hp → Prop) → Prop
noncomputable abbrev TA := St → Hp → (List V → Hp → Prop) → Prop
structure Ends where
  nx : St → Hp → Prop
  rt : VK
  bk : St → Hp → Prop := fun _ _ => False
  ct : St → Hp → Prop := fun _ _ => False
noncomputable abbrev TS := Ends → St → Hp → Prop
noncomputable def EP (X : Cx) (pins : List (Addr × Obj)) (σ : St) (Q : VK) (u : Value) (s' : Shared) : Prop := ∃ v H', Inv X pins σ H' s' ∧ RelV v u ∧ Q v H'
noncomputable def TP (X : Cx) (pins : List (Addr × Obj)) (σ : St) (Q : Bool → Hp → Prop) (b : Bool) (s' : Shared) : Prop := ∃ H', Inv X pins σ H' s' ∧ Q b H'
noncomputable def AP (X : Cx) (pins : List (Addr × Obj)) (σ : St) (Q : List V → Hp → Prop) (us : List Value) (s' : Shared) : Prop := ∃ vs H', Inv X pins σ H' s' ∧ Vals vs us ∧ Q vs H'
noncomputable def SP (X : Cx) (pins : List (Addr × Obj)) (D : Ends) (f : Flow) (s' : Shared) : Prop :=
  match f with
  | .next => ∃ σ' H', Inv X pins σ' H' s' ∧ D.nx σ' H'
  | .brk => ∃ σ' H', Inv X pins σ' H' s' ∧ D.bk σ' H'
  | .cont => ∃ σ' H', Inv X pins σ' H' s' ∧ D.ct σ' H'
  | .ret u => ∃ v σ' H', Inv X pins σ' H' s' ∧ RelV v u ∧ D.rt v H'
noncomputable def PE (X : Cx) (e : Expr) (t : TE) : Prop :=
  ∀ (pins : List (Addr × Obj)) (s : Shared) (σ : St) (H : Hp) (Q : VK), Inv X pins σ H s → t σ H Q → wpAny (model X.prog X.w) X.A (eval e X.env) (EP X pins σ Q) X.xe s
noncomputable def PT (X : Cx) (e : Expr) (t : TT) : Prop :=
  ∀ (pins : List (Addr × Obj)) (s : Shared) (σ : St) (H : Hp) (Q : Bool → Hp → Prop), Inv X pins σ H s → t σ H Q → wpAny (model X.prog X.w) X.A (isTrue e X.env (eval e X.env)) (TP X pins σ Q) X.xe s
noncomputable def PW (X : Cx) (e : Expr) (t : TT) : Prop :=
  ∀ (whole : Sem Value) (pins : List (Addr × Obj)) (s : Shared) (σ : St) (H : Hp) (Q : Bool → Hp → Prop), Inv X pins σ H s → t σ H Q → wpAny (model X.prog X.w) X.A (isTrue e X.env whole) (TP X pins σ Q) X.xe s
theorem PW.pt {X : Cx} {e : Expr} {t : TT} (h : PW X e t) : PT X e t := h _
noncomputable def PA (X : Cx) (es : List Expr) (t : TA) : Prop :=
  ∀ (pos : Pos) (pins : List (Addr × Obj)) (s : Shared) (σ : St) (H : Hp) (Q : List V → Hp → Prop), Inv X pins σ H s → t σ H Q → wpAny (model X.prog X.w) X.A (spliced (backTo pos (starEach es X.env))) (AP X pins σ Q) X.xe s
noncomputable def PS (X : Cx) (st : Stmt) (t : TS) : Prop :=
  ∀ (pins : List (Addr × Obj)) (s : Shared) (σ : St) (H : Hp) (D : Ends), Inv X pins σ H s → t D σ H → wpAny (model X.prog X.w) X.A (exec st X.env) (SP X pins D) X.xe s
noncomputable def PSs (X : Cx) (st : List Stmt) (t : TS) : Prop :=
  ∀ (pins : List (Addr × Obj)) (s : Shared) (σ : St) (H : Hp) (D : Ends), Inv X pins σ H s → t D σ H → wpAny (model X.prog X.w) X.A (execs st X.env) (SP X pins D) X.xe s
theorem thn {α : Type} {t : Sem α} {Q Q' : α → Shared → Prop} {M : Model} {A : Around} {E : Value → Shared → Prop} {s : Shared} (h : wpAny M A t Q E s) (hQ : ∀ a s, Q a s → Q' a s) : wpAny M A t Q' E s := wpAny_mono h hQ fun _ _ x => x
end L2
namespace L2
open PySem PySem.Spec PyProof.Rows
section
variable {X : Cx}
noncomputable def tVar (i : Nat) : TE := fun σ H Q => ∃ v, σ[i]? = some (some v) ∧ Q v H
noncomputable def tC (v : V) : TE := fun _ H Q => Q v H
theorem pe_var {i : Nat} {x : Str} {pos : Pos} (hN : X.N[i]? = some x) (hv : Vis X.env.scope x) (hd : (x == ("__debug__" : Str)) = false := by decide) (hcd : (x == ("__classdict__" : Str)) = false := by decide) : PE X (.Name x pos) (tVar i) := by
  intro pins s σ H Q I h
  obtain ⟨v, e, h⟩ := h
  obtain ⟨m, hn, hl⟩ := I.loc
  obtain ⟨u, r, l⟩ := hl i x v hN e hv
  have fin : EP X pins σ Q u s := ⟨v, H, I, r, h⟩
  rcases l with ⟨hk, hm⟩ | ⟨hk, c, hc, hcell⟩
  · exact wpAny_Name (wpAny_loadName_local I.ok.kind hk hn hm fin) hd
  · rcases hk with hk | hk
    · exact wpAny_Name (wpAny_loadName_cell I.ok.kind hk hc hcell fin) hd
    · exact wpAny_Name (wpAny_loadName_free I.ok.kind hk hc hcell fin hcd) hd
theorem pe_int {i j pos} : PE X (.Constant (.int i) j pos) (tC (.int i)) := fun _ _ _ H _ I h => wpAny_Constant_int ⟨.int i, H, I.tok _, ⟨_, rfl⟩, h⟩
theorem pe_bl {b j pos} : PE X (.Constant (.bool b) j pos) (tC (.bl b)) := fun _ _ _ H _ I h => Constant_bool ⟨.bl b, H, I, rfl, h⟩
theorem pe_non {j pos} : PE X (.Constant .none j pos) (tC .non) := fun _ _ _ H _ I h => Constant_none ⟨.non, H, I, rfl, h⟩
theorem pe_str {x j pos} : PE X (.Constant (.str x) j pos) (tC (.str x)) := fun _ _ _ H _ I h => Calls.Constant_str ⟨.str x, H, I.tok _, ⟨_, rfl⟩, h⟩
noncomputable def Gl (X : Cx) (x : Str) : Prop := X.env.kindOf x = some .globalImplicit
theorem ld_glob {E : Value → Shared → Prop} {pins : List (Addr × Obj)} {s : Shared} {σ : St} {H : Hp} {x : Str} {u : Value} {pos : Pos} {Q : Value → Shared → Prop} (I : Inv X pins σ H s) (hg : Gl X x) (hm : X.mg x = some u) (h : Q u s)
    (hd : (x == ("__debug__" : Str)) = false := by decide) : wpAny (model X.prog X.w) X.A (eval (.Name x pos) X.env) Q E s :=
  Calls.Name_function_global I.ok.kind hg (Calls.loadGlobal_global (by rw [I.ok.glob]; exact I.mod.glob.keeps I.bk) hm h) hd
theorem ld_blt {E : Value → Shared → Prop} {pins : List (Addr × Obj)} {s : Shared} {σ : St} {H : Hp} {x : Str} {u : Value} {pos : Pos} {Q : Value → Shared → Prop} (I : Inv X pins σ H s) (hg : Gl X x) (hm : X.mg x = none) (hv : bootBuiltins x = some u) (h : Q u s)
    (hn : x ≠ "__name__" := by decide) (hd : (x == ("__debug__" : Str)) = false := by decide) : wpAny (model X.prog X.w) X.A (eval (.Name x pos) X.env) Q E s := by
  obtain ⟨mb, h1, h2⟩ := I.mod.blt
  exact Calls.Name_function_global I.ok.kind hg (Calls.loadGlobal_builtin (by rw [I.ok.glob]; exact I.mod.glob.keeps I.bk) hm (by rw [I.ok.blt]; exact h1.keeps I.bk) ((h2 x hn).trans hv) h) hd
theorem pe_glob {x : Str} {v : V} {u : Value} {pos : Pos} (hg : Gl X x) (hm : X.mg x = some u) (r : RelV v u) (hd : (x == ("__debug__" : Str)) = false := by decide) : PE X (.Name x pos) (tC v) :=
  fun _ _ _ H _ I h => ld_glob I hg hm ⟨v, H, I, r, h⟩ hd
theorem pe_bltn {x : Str} {v : V} {u : Value} {pos : Pos} (hg : Gl X x) (hm : X.mg x = none) (hv : bootBuiltins x = some u) (r : RelV v u) (hn : x ≠ "__name__" := by decide) (hd : (x == ("__debug__" : Str)) = false := by decide) : PE X (.Name x pos) (tC v) :=
  fun _ _ _ H _ I h => ld_blt I hg hm hv ⟨v, H, I, r, h⟩ hn hd
variable {a b : Expr} {ta tb : TE} {pos : Pos}
noncomputable def PC (X : Cx) (op : CmpOp) (a b : Expr) (t : TE) : Prop :=
  ∀ (pins : List (Addr × Obj)) (s : Shared) (σ : St) (H : Hp) (Q : VK), Inv X pins σ H s → t σ H Q →
    wpAny (model X.prog X.w) X.A (eval a X.env) (fun v s₁ => wpAny (model X.prog X.w) X.A (eval b X.env) (fun u s₂ => wpAny (model X.prog X.w) X.A (compareOp op v u) (EP X pins σ Q) X.xe s₂) X.xe s₁) X.xe s
noncomputable def tB (t : TE) : TT := fun σ H Q => t σ H fun x H1 => ∃ c, x = .bl c ∧ Q c H1
theorem pt_cmp {op : CmpOp} {t : TE} (h : PC X op a b t) (h1 : behindInMarks op b = false := by first | exact nobehind _ (by decide) (by decide) | rfl) : PT X (.Compare a [op] [b] pos) (tB t) := by
  intro pins s σ H Q I hw
  refine wpAny_isTrue_Compare1 (thn (h pins s σ H _ I hw) fun v s1 h1 => thn h1 fun u s2 h2 => thn h2 fun c s3 ⟨x, H1, I1, r1, q1⟩ => ?_) h1
  obtain ⟨d, rfl, q⟩ := q1
  cases r1
  exact wpAny_truthy_bool ⟨H1, I1, q⟩
variable {tA tB' : TT} {rest : List Expr}
noncomputable def tAnd (t u : TT) : TT := fun σ H Q => t σ H fun c H1 => if c = true then u σ H1 Q else Q false H1
noncomputable def tOr (t u : TT) : TT := fun σ H Q => t σ H fun c H1 => if c = true then Q true H1 else u σ H1 Q
noncomputable def tNot (t : TT) : TT := fun σ H Q => t σ H fun c H1 => Q (!c) H1
theorem pw_and1 (ha : PT X a tA) : PW X (.BoolOp .And [a] pos) tA := by
  intro wh pins s σ H Q I h
  refine isTrue_and (thn (ha pins s σ H Q I h) fun c s1 e => ?_)
  cases c with
  | true => exact isTrue_and_nil e
  | false => exact e
theorem pw_or1 (ha : PT X a tA) : PW X (.BoolOp .Or [a] pos) tA := by
  intro wh pins s σ H Q I h
  refine isTrue_or (thn (ha pins s σ H Q I h) fun c s1 e => ?_)
  cases c with
  | false => exact isTrue_or_nil e
  | true => exact e
theorem pw_and (ha : PT X a tA) (hb : PW X (.BoolOp .And (b :: rest) pos) tB') : PW X (.BoolOp .And (a :: b :: rest) pos) (tAnd tA tB') := by
  intro wh pins s σ H Q I h
  refine isTrue_and (thn (ha pins s σ H _ I h) fun c s1 ⟨H1, I1, q1⟩ => ?_)
  cases c with
  | true => exact hb wh pins s1 σ H1 Q I1 q1
  | false => exact ⟨H1, I1, q1⟩
theorem pw_or (ha : PT X a tA) (hb : PW X (.BoolOp .Or (b :: rest) pos) tB') : PW X (.BoolOp .Or (a :: b :: rest) pos) (tOr tA tB') := by
  intro wh pins s σ H Q I h
  refine isTrue_or (thn (ha pins s σ H _ I h) fun c s1 ⟨H1, I1, q1⟩ => ?_)
  cases c with
  | true => exact ⟨H1, I1, q1⟩
  | false => exact hb wh pins s1 σ H1 Q I1 q1
theorem pt_not (ha : PT X a tA) : PT X (.UnaryOp .Not a pos) (tNot tA) := by
  intro pins s σ H Q I h
  exact isTrue_not (ha pins s σ H (fun c H1 => Q (!c) H1) I h)
noncomputable def tAndV (ta tb : TE) : TE := fun σ H Q => ta σ H fun x H1 => ∃ c, x = .bl c ∧ if c = true then tb σ H1 Q else Q (.bl false) H1
noncomputable def tNotV (ta : TE) : TE := fun σ H Q => ta σ H fun x H1 => ∃ c, x = .bl c ∧ Q (.bl (!c)) H1
theorem pe_one {op} {t : TE} (h : PE X a t) : PE X (.BoolOp op [a] pos) t := fun pins s σ H Q I hw => BoolOp_one (h pins s σ H Q I hw)
theorem pe_and (ha : PE X a ta) (hb : PE X (.BoolOp .And (b :: rest) pos) tb) : PE X (.BoolOp .And (a :: b :: rest) pos) (tAndV ta tb) := by
  intro pins s σ H Q I h
  refine BoolOp_and (thn (ha pins s σ H _ I h) fun v s1 ⟨x, H1, I1, r1, q1⟩ => ?_)
  obtain ⟨c, rfl, q1⟩ := q1
  cases r1
  refine wpAny_truthy_bool ?_
  cases c with
  | true => exact hb pins s1 σ H1 Q I1 q1
  | false => exact ⟨.bl false, H1, I1, rfl, q1⟩
theorem pe_not (ha : PE X a ta) : PE X (.UnaryOp .Not a pos) (tNotV ta) := by
  intro pins s σ H Q I h
  refine UnaryOp_ (thn (ha pins s σ H _ I h) fun v s1 ⟨x, H1, I1, r1, q1⟩ => ?_)
  obtain ⟨c, rfl, q1⟩ := q1
  cases r1
  exact not_of (wpAny_truthy_bool ⟨.bl (!c), H1, I1, rfl, q1⟩)
noncomputable def tIf (t : TT) (ta tb : TE) : TE := fun σ H Q => t σ H fun c H1 => if c = true then ta σ H1 Q else tb σ H1 Q
theorem pe_ifExp {c : Expr} (hc : PT X c tA) (ha : PE X a ta) (hb : PE X b tb) : PE X (.IfExp c a b pos) (tIf tA ta tb) := by
  intro pins s σ H Q I h
  refine wpAny_IfExp (thn (hc pins s σ H _ I h) fun d s1 ⟨H1, I1, q1⟩ => ?_)
  cases d with
  | true => exact ha pins s1 σ H1 Q I1 q1
  | false => exact hb pins s1 σ H1 Q I1 q1
end
end L2
namespace L2
open PySem PySem.Spec PyProof.Rows
noncomputable def SqL (K : PySem.W.Frag) (H : Hp) (a : Addr) (xs : List V) : Prop :=
  Rd H a (.lst xs) ∨
    ∃ (o : Obj) (its : Array Value) (n : Nat), K.lookup a = some o ∧ o.cls = .type "list" ∧ o.dict = none ∧ o.data = .seq its n ∧ its.size ≤ sizeLine ∧ Vals xs its.toList
noncomputable def SqT (K : PySem.W.Frag) (H : Hp) (a : Addr) (xs : List V) : Prop :=
  Rd H a (.tup xs) ∨
    ∃ (o : Obj) (its : Array Value) (n : Nat), K.lookup a = some o ∧ o.cls = .type "tuple" ∧ o.data = .seq its n ∧ its.size ≤ sizeLine ∧ Vals xs its.toList
noncomputable def absV : Value → Option V
  | .none => some .non
  | .bool b => some (.bl b)
  | .int i _ => some (.int i)
  | .str x _ => some (.str x)
  | .bytes b _ => some (.byt b)
  | .float b _ => some (.flt b)
  | .ref a => some (.ref a)
  | .type n => some (.ty n)
  | _ => none
theorem RelV.abs {x : V} {u : Value} (r : RelV x u) : absV u = some x := by
  cases x with
  | non => cases r; rfl
  | bl _ => cases r; rfl
  | int _ => obtain ⟨t, rfl⟩ := r; rfl
  | str _ => obtain ⟨t, rfl⟩ := r; rfl
  | byt _ => obtain ⟨t, rfl⟩ := r; rfl
  | flt _ => obtain ⟨t, rfl⟩ := r; rfl
  | ref _ => cases r; rfl
  | ty _ => cases r; rfl
theorem RelV.inj {x y : V} {u : Value} (r : RelV x u) (q : RelV y u) : x = y := Option.some.inj (r.abs.symm.trans q.abs)
theorem Vals.inj : ∀ {xs ys : List V} {us : List Value}, Vals xs us → Vals ys us → xs = ys
  | _, _, _, .nil, .nil => rfl
  | _, _, _, .cons r t, .cons r' t' => by rw [r.inj r', Vals.inj t t']
section
variable {X : Cx} {pins : List (Addr × Obj)} {σ : St} {H : Hp} {s : Shared} {a : Addr} {xs ys : List V}
theorem SqL.of {K : PySem.W.Frag} (h : H a = some (.lst xs)) : SqL K H a xs := .inl (.inl h)
theorem SqT.of {K : PySem.W.Frag} (h : H a = some (.tup xs)) : SqT K H a xs := .inl (.inl h)
theorem Inv.list (I : Inv X pins σ H s) (h : SqL X.K H a xs) : ∃ its : List Value, Vals xs its ∧ PlainL s.heap a its.toArray ∧ xs.length ≤ sizeLine := by
  rcases h with h | ⟨o, its, n, hk, hc, hd, hs, hz, r⟩
  · obtain ⟨z, its, n, r, e⟩ := h.ok I.hok
    exact ⟨its, r, ⟨_, n, e, rfl, rfl, rfl⟩, z⟩
  · refine ⟨its.toList, r, ⟨o, n, I.kIn a o hk, hc, hd, by simpa using hs⟩, ?_⟩
    have e := r.length
    simp only [Array.length_toList] at e
    omega
theorem Inv.tuple (I : Inv X pins σ H s) (h : SqT X.K H a xs) : ∃ its : List Value, Vals xs its ∧ IsTup s.heap a its.toArray ∧ xs.length ≤ sizeLine := by
  rcases h with h | ⟨o, its, n, hk, hc, hs, hz, r⟩
  · obtain ⟨z, its, r, p⟩ := h.ok I.hok
    exact ⟨its, r, p, z⟩
  · refine ⟨its.toList, r, ⟨o, I.kIn a o hk, hc, n, by simpa using hs⟩, ?_⟩
    have e := r.length
    simp only [Array.length_toList] at e
    omega
theorem Inv.list_inj (I : Inv X pins σ H s) (h : SqL X.K H a xs) (h' : SqL X.K H a ys) : xs = ys := by
  obtain ⟨its, r, ⟨o, n, e, _, _, d⟩, _⟩ := I.list h
  obtain ⟨its', r', ⟨o', n', e', _, _, d'⟩, _⟩ := I.list h'
  rw [e] at e'; cases e'
  rw [d] at d'
  injection d' with d1 _
  have : its = its' := by simpa using congrArg Array.toList d1
  subst this
  exact r.inj r'
end
noncomputable abbrev Cx.wish (X : Cx) (E : Value → Shared → Prop) : Cx := { X with xe := E }
noncomputable abbrev Cx.nox (X : Cx) : Cx := X.wish fun _ _ => False
theorem Cx.Ok.wish {X : Cx} (ok : X.Ok) (E : Value → Shared → Prop) : (X.wish E).Ok :=
  ⟨ok.mod, ok.kind, ok.glob, ok.blt, ok.above, ok.inj, ok.has, ok.cab, ok.hd, ok.frames, ok.stk, ok.exf, ok.bs, ok.bsz, ok.noex, ok.exfs, ok.funs, ok.frf⟩
theorem Cx.Ok.unwish {X : Cx} {E : Value → Shared → Prop} (ok : (X.wish E).Ok) : X.Ok :=
  ⟨ok.mod, ok.kind, ok.glob, ok.blt, ok.above, ok.inj, ok.has, ok.cab, ok.hd, ok.frames, ok.stk, ok.exf, ok.bs, ok.bsz, ok.noex, ok.exfs, ok.funs, ok.frf⟩
section
variable {X : Cx} {pins : List (Addr × Obj)} {σ : St} {H : Hp} {s : Shared} {E : Value → Shared → Prop}
theorem Inv.wish (I : Inv X pins σ H s) (E : Value → Shared → Prop) : Inv (X.wish E) pins σ H s := ⟨I.ok.wish E, I.os, I.bare, I.base, I.loc, I.cell, I.free, I.freeC, I.pin, I.hok, I.len⟩
theorem Inv.unwish (I : Inv (X.wish E) pins σ H s) : Inv X pins σ H s := ⟨I.ok.unwish, I.os, I.bare, I.base, I.loc, I.cell, I.free, I.freeC, I.pin, I.hok, I.len⟩
theorem SP.unwish {D : Ends} {f : Flow} {s' : Shared} (h : SP (X.wish E) pins D f s') : SP X pins D f s' := by
  cases f with
  | next => obtain ⟨σ', H', I, q⟩ := h; exact ⟨σ', H', I.unwish, q⟩
  | brk => obtain ⟨σ', H', I, q⟩ := h; exact ⟨σ', H', I.unwish, q⟩
  | cont => obtain ⟨σ', H', I, q⟩ := h; exact ⟨σ', H', I.unwish, q⟩
  | ret u => obtain ⟨v, σ', H', I, r, q⟩ := h; exact ⟨v, σ', H', I.unwish, r, q⟩
theorem PSs.nox {st : List Stmt} {t : TS} (h : PSs X.nox st t) : PSs X st t := fun pins s σ H D I hw =>
  wpAny_mono (h pins s σ H D (I.wish _) hw) (fun _ _ q => q.unwish) fun _ _ z => False.elim z
end
section
variable {X : Cx} {st : Stmt} {rest : List Stmt} {t u : TS} {e : Expr} {te : TE} {pos : Pos}
noncomputable def tNext : TS := fun D σ H => D.nx σ H
noncomputable def tSeq (t u : TS) : TS := fun D σ H => t { D with nx := u D } σ H
theorem pss_nil : PSs X [] tNext := fun _ _ σ H _ I h => wpAny_execs_nil ⟨σ, H, I, h⟩
theorem pss_cons (h1 : PS X st t) (h2 : PSs X rest u) : PSs X (st :: rest) (tSeq t u) := by
  intro pins s σ H D I h
  refine wpAny_execs_cons (thn (h1 pins s σ H { D with nx := u D } I h) fun f s1 q => ?_)
  cases f with
  | next =>
    obtain ⟨σ', H', I', q⟩ := q
    exact h2 pins s1 σ' H' D I' q
  | ret v => exact q
  | brk => exact q
  | cont => exact q
theorem pss_one (h1 : PS X st t) : PSs X [st] t := by
  intro pins s σ H D I h
  refine wpAny_execs_cons (thn (h1 pins s σ H D I h) fun f s1 q => ?_)
  cases f with
  | next => exact wpAny_execs_nil q
  | ret v => exact q
  | brk => exact q
  | cont => exact q
theorem Inv.quiet {pins : List (Addr × Obj)} {σ : St} {H : Hp} {s : Shared} (I : Inv X pins σ H s) : interactive X.env = false := by simp [interactive, I.ok.kind]
noncomputable def tDrop (te : TE) : TS := fun D σ H => te σ H fun _ H1 => D.nx σ H1
theorem ps_expr (he : PE X e te) (hs : swapsWith e none pos.line X.env = pure false := by rfl) : PS X (.Expr e pos) (tDrop te) := by
  intro pins s σ H D I h
  exact wpAny_Expr_any (thn (he pins s σ H _ I h) fun v s1 ⟨x, H1, I1, r1, q1⟩ => ⟨σ, H1, I1, q1⟩) I.quiet hs
noncomputable def tRet (te : TE) : TS := fun D σ H => te σ H D.rt
theorem ps_ret (he : PE X e te) : PS X (.Return (some e) pos) (tRet te) := by
  intro pins s σ H D I h
  exact wpAny_Return_some (thn (he pins s σ H _ I h) fun v s1 ⟨x, H1, I1, r1, q1⟩ => ⟨x, σ, H1, I1, r1, q1⟩)
noncomputable def tIfS (c : TT) (t u : TS) : TS := fun D σ H => c σ H fun b H1 => if b = true then t D σ H1 else u D σ H1
theorem ps_if {c : Expr} {a b : List Stmt} {tc : TT} (hc : PT X c tc) (ha : PSs X a t) (hb : PSs X b u) : PS X (.If c a b pos) (tIfS tc t u) := by
  intro pins s σ H D I h
  refine wpAny_If (thn (hc pins s σ H _ I h) fun d s1 ⟨H1, I1, q1⟩ => ?_)
  cases d with
  | true => exact ha pins s1 σ H1 D I1 q1
  | false => exact hb pins s1 σ H1 D I1 q1
end
noncomputable abbrev TG := V → St → Hp → (St → Hp → Prop) → Prop
noncomputable abbrev TGs := List V → St → Hp → (St → Hp → Prop) → Prop
noncomputable def PG (X : Cx) (target : Expr) (t : TG) : Prop :=
  ∀ (pins : List (Addr × Obj)) (s : Shared) (σ : St) (H : Hp) (v : V) (u : Value) (Q : St → Hp → Prop), Inv X pins σ H s → RelV v u → t v σ H Q →
    wpAny (model X.prog X.w) X.A (assign target X.env u) (fun _ s' => ∃ σ' H', Inv X pins σ' H' s' ∧ Q σ' H') X.xe s
noncomputable def PGs (X : Cx) (ts : List Expr) (t : TGs) : Prop :=
  ∀ (pins : List (Addr × Obj)) (s : Shared) (σ : St) (H : Hp) (vs : List V) (us : List Value) (Q : St → Hp → Prop), Inv X pins σ H s → Vals vs us → t vs σ H Q →
    wpAny (model X.prog X.w) X.A (assignInOrder ((assignEach ts X.env).map (·.2)) us) (fun _ s' => ∃ σ' H', Inv X pins σ' H' s' ∧ Q σ' H') X.xe s
noncomputable abbrev TSet := V → V → V → Hp → (Hp → Prop) → Prop
noncomputable def PSet (X : Cx) (t : TSet) : Prop :=
  ∀ (pins : List (Addr × Obj)) (s : Shared) (σ : St) (H : Hp) (o i v : V) (ov iv u : Value) (Q : Hp → Prop), Inv X pins σ H s → RelV o ov → RelV i iv → RelV v u → t o i v H Q →
    wpAny (model X.prog X.w) X.A (setItem ov iv u) (fun _ s' => ∃ H', Inv X pins σ H' s' ∧ Q H') X.xe s
section
variable {X : Cx} {pos : Pos}
noncomputable def gName (i : Nat) : TG := fun v σ H Q => Q (σ.set i (some v)) H
theorem pg_name {i : Nat} {x : Str} (hN : X.N.Nodup) (hi : X.N[i]? = some x) (hx : Loc X.env.scope x) (hf : X.fn x = true ∨ X.env.scope.names.lookup x = some .local := by first | exact .inl rfl | exact .inr rfl | assumption) : PG X (.Name x pos) (gName i) := by
  intro pins s σ H v u Q I r h
  exact wpAny_assign_Name (store_ok I hN hi hx r (fun s' I' => ⟨_, H, I', h⟩) hf)
noncomputable def gNil : TGs := fun vs σ H Q => vs = [] ∧ Q σ H
noncomputable def gCons (t : TG) (u : TGs) : TGs := fun vs σ H Q => ∃ v r, vs = v :: r ∧ t v σ H fun σ' H' => u r σ' H' Q
theorem pgs_nil : PGs X [] gNil := by
  intro pins s σ H vs us Q I r h
  obtain ⟨e, h⟩ := h
  subst e
  cases r
  exact assignInOrder_nil ⟨σ, H, I, h⟩
theorem pgs_cons {e : Expr} {es : List Expr} {t : TG} {u : TGs} (h1 : PG X e t) (h2 : PGs X es u)
    (hs : (assignEach (e :: es) X.env).map (·.2) = assign e X.env :: (assignEach es X.env).map (·.2) := by rfl) : PGs X (e :: es) (gCons t u) := by
  intro pins s σ H vs us Q I r h
  obtain ⟨v, vr, e1, h⟩ := h
  subst e1
  cases r with
  | cons r rr =>
    rw [hs]
    refine assignInOrder_cons (thn (h1 pins s σ H _ _ _ I r h) fun _ s1 ⟨σ1, H1, I1, q1⟩ => ?_)
    exact h2 pins s1 σ1 H1 _ _ Q I1 rr q1
noncomputable def gTup (K : PySem.W.Frag) (n : Nat) (t : TGs) : TG := fun v σ H Q => ∃ a xs, v = .ref a ∧ SqT K H a xs ∧ xs.length = n ∧ t xs σ H Q
theorem pg_tup {es : List Expr} {k : Nat} {t : TGs} {n : Nat} (hc : X.calm = true) (h : PGs X es t)
    (hn : (assignEach es X.env).length = n := by rfl) (hst : (assignEach es X.env).findIdx? (·.1) = none := by rfl) : PG X (.Tuple es k pos) (gTup X.K n t) := by
  intro pins s σ H v u Q I r hw
  obtain ⟨a, xs, e1, hq, hl, hw⟩ := hw
  subst e1
  cases r
  obtain ⟨its, rv, ht, hz⟩ := I.tuple hq
  refine assign_Tuple_tuple (I.ok.hd hc) ht (by simp [hn, ← hl, rv.length]) hst fun h' hx => ?_
  have I1 : Inv X pins σ H { s with heap := h' } := I.kept (t' := s.toks) fun b o e => hx b o (Nat.ne_of_lt (Heap.lt_size e)) e
  exact h pins _ σ H xs _ Q I1 (by simpa using rv) hw
noncomputable def gSub (to ti : TE) (t : TSet) : TG := fun v σ H Q => to σ H fun o H1 => ti σ H1 fun i H2 => t o i v H2 fun H3 => Q σ H3
theorem pg_sub {o i : Expr} {to ti : TE} {t : TSet} (ho : PE X o to) (hi : PE X i ti) (hs : PSet X t)
    (ha : ∀ v, assign (.Subscript o i pos) X.env v = (do
      let ov ← holding [v] (eval o X.env)
      let iv ← holding [v, ov] (eval i X.env)
      standAt pos
      holding [v, ov, iv] (setItem ov iv v)
      release [v, ov, iv] []) := by intro _; rfl) : PG X (.Subscript o i pos) (gSub to ti t) := by
  intro pins s σ H v u Q I r h
  rw [ha]
  refine wpAny_bind (wpAny_holding (thn (ho pins s σ H _ I h) fun ov s1 ⟨x, H1, I1, r1, q1⟩ => ?_))
  refine wpAny_bind (wpAny_holding (thn (hi pins s1 σ H1 _ I1 q1) fun iv s2 ⟨y, H2, I2, r2, q2⟩ => ?_))
  refine wpAny_bind (wpAny_standAt (wpAny_bind (wpAny_holding (thn (hs pins s2 σ H2 x y v ov iv u _ I2 r1 r2 r q2) fun _ s3 ⟨H3, I3, q3⟩ => ?_))))
  exact wpAny_release ⟨σ, H3, I3, q3⟩
noncomputable def tAsg (te : TE) (g : TG) : TS := fun D σ H => te σ H fun x H1 => g x σ H1 D.nx
theorem ps_asg {tg e : Expr} {te : TE} {g : TG} (he : PE X e te) (hg : PG X tg g) (hs : swapsWithSole [tg] e pos.line X.env = pure false := by rfl) (hw : swappedStores [tg] e X.env = pure none := by rfl)
    (h1 : (assignEach [tg] X.env).map (·.2) = [assign tg X.env] := by rfl) : PS X (.Assign [tg] e pos) (tAsg te g) := by
  intro pins s σ H D I h
  refine wpAny_Assign_stores (thn (he pins s σ H _ I h) fun v s1 ⟨x, H1, I1, r1, q1⟩ => ?_) hs hw
  rw [h1]
  exact thn (hg pins s1 σ H1 x v _ I1 r1 q1) fun _ s2 q => q
theorem ps_set {i : Nat} {x : Str} {e : Expr} {te : TE} {pos' : Pos} (hN : X.N.Nodup) (hi : X.N[i]? = some x) (hx : Loc X.env.scope x) (he : PE X e te) (hs : swapsWith e (some (.Name x pos')) pos.line X.env = pure false := by rfl) (hf : X.fn x = true ∨ X.env.scope.names.lookup x = some .local := by first | exact .inl rfl | exact .inr rfl | assumption) :
    PS X (.Assign [.Name x pos'] e pos) (tAsg te (gName i)) := by
  intro pins s σ H D I h
  refine wpAny_Assign_Name (thn (he pins s σ H _ I h) fun v s1 ⟨y, H1, I1, r1, q1⟩ => ?_) hs
  exact store_ok I1 hN hi hx r1 (fun s2 I2 => ⟨_, H1, I2, q1⟩) hf
end
section
variable {X : Cx} {pos : Pos}
end
structure It where
  go : Nat → Hp → Prop
  yld : Nat → Hp → V → Hp → Prop
  stop : Nat → Hp → Prop
noncomputable def FpOk (X : Cx) (pins : List (Addr × Obj)) (H : Hp) (b : Addr) : Prop :=
  H b = none ∧ b ≠ X.env.locals ∧ b ∉ X.fs ∧ (b ∈ X.ex ∨ X.s₀.heap.objs.size ≤ b) ∧ (∀ x c, X.env.cells.lookup x = some c → c ≠ b) ∧ ∀ p ∈ X.pn ++ pins, p.1 ≠ b
theorem Inv.fpOk {X : Cx} {pins : List (Addr × Obj)} {σ : St} {H H' : Hp} {s : Shared} {b : Addr} (I : Inv X pins σ H s) (hb : s.heap.objs.size ≤ b) (hn : H' b = none) : FpOk X pins H' b := by
  refine ⟨hn, Nat.ne_of_gt (Nat.lt_of_lt_of_le I.lt hb), I.nofs hb, .inr (Nat.le_trans I.sz hb), fun x c e z => ?_, fun p hp z => ?_⟩
  · obtain ⟨v, q⟩ := I.cell x c e
    exact absurd (Nat.lt_of_lt_of_le q.lt (by rw [z]; exact hb)) (Nat.lt_irrefl _)
  · exact absurd (Nat.lt_of_lt_of_le (Heap.lt_size (I.pin p hp).1) (by rw [z]; exact hb)) (Nat.lt_irrefl _)
structure Turn (P : Program) (w : World) (K : PySem.W.Frag) (tg : Expr) (J : It) (fp : List Addr) (it : Addr) (tn : Nat → Heap → Prop) : Prop where
  mem : it ∈ fp
  obj : ∀ i h, tn i h → ∀ b ∈ fp, ∃ o, h.get? b = some o ∧ ∀ v, o.data ≠ .cell v
  keep : ∀ i h h', tn i h → (∀ b ∈ fp, ∀ o, h.get? b = some o → h'.get? b = some o) → tn i h'
  item : ∀ (X : Cx), X.prog = P → X.w = w → X.K = K → X.calm = true → ∀ (i : Nat) (pins : List (Addr × Obj)) (s : Shared) (σ : St) (H : Hp) (E : Value → Shared → Prop), Inv X pins σ H s → (∀ b ∈ fp, FpOk X pins H b) → tn i s.heap → J.go i H →
    wpAny (model P w) X.A (pyNext (.ref it)) (fun r s1 => ∃ u, r = some u ∧
      wpAny (model P w) X.A (letOwnedTupleGo tg (.ref it) u) (fun _ s2 => ∃ x H', Inv X pins σ H' s2 ∧ RelV x u ∧ J.yld i H x H' ∧ tn (i + 1) s2.heap ∧ ∀ b ∈ fp, H' b = none) E s1) E s
  done : ∀ (X : Cx), X.prog = P → X.w = w → X.K = K → X.calm = true → ∀ (i : Nat) (pins : List (Addr × Obj)) (s : Shared) (σ : St) (H : Hp) (E : Value → Shared → Prop), Inv X pins σ H s → (∀ b ∈ fp, FpOk X pins H b) → tn i s.heap → J.stop i H →
    wpAny (model P w) X.A (pyNext (.ref it)) (fun r s1 => r = none ∧ Inv X pins σ H s1) E s
  self : ∀ (A : Around) (i : Nat) (s : Shared) (Q : Value → Shared → Prop) (E : Value → Shared → Prop), tn i s.heap → Q (.ref it) s → wpAny (model P w) A (pyIter (.ref it)) Q E s
noncomputable abbrev TI := St → Hp → (It → Hp → Prop) → Prop
noncomputable def PIE (X : Cx) (pins : List (Addr × Obj)) (σ : St) (tg : Expr) (R : It → Hp → Prop) (itv : Value) (s2 : Shared) : Prop :=
  ∃ (it : Addr) (fp : List Addr) (tn : Nat → Heap → Prop) (J : It) (H' : Hp), itv = .ref it ∧ Inv X pins σ H' s2 ∧ Turn X.prog X.w X.K tg J fp it tn ∧ tn 0 s2.heap ∧ (∀ b ∈ fp, FpOk X pins H' b) ∧ R J H'
noncomputable def PI (X : Cx) (tg iter : Expr) (wi : TI) : Prop :=
  ∀ (pins : List (Addr × Obj)) (s : Shared) (σ : St) (H : Hp) (R : It → Hp → Prop), Inv X pins σ H s → wi σ H R →
    wpAny (model X.prog X.w) X.A (eval iter X.env) (fun v s1 => wpAny (model X.prog X.w) X.A (pyIter v) (PIE X pins σ tg R) X.xe s1) X.xe s
theorem go_of {M : Model} {A : Around} {E : Value → Shared → Prop} {s : Shared} {tg : Expr} {it : Addr} {u : Value} {o : Obj} {n : String} {vs : Array Value} {Q : Unit → Shared → Prop} (ho : s.heap.get? it = some o) (hc : o.cls = .type n) (hd : o.data = .fields vs)
    (hn : ["enumerate", "zip", "dict_itemiterator", "dict_reverseitemiterator", "odict_iterator", "itertools.zip_longest", "itertools.pairwise"].contains n = false) (hQ : Q () s) : wpAny M A (letOwnedTupleGo tg (.ref it) u) Q E s := by
  unfold letOwnedTupleGo
  cases tg <;> first
    | exact wpAny_pure hQ
    | (cases u <;> first
        | exact wpAny_pure hQ
        | (refine wpAny_bind (wpAny_load ho ?_)
           rw [hc, hd]
           show wpAny M A (if (["enumerate", "zip", "dict_itemiterator", "dict_reverseitemiterator", "odict_iterator", "itertools.zip_longest", "itertools.pairwise"].contains n && vs[0]? == some (rawInt _)) = true then _ else _) Q E s
           rw [if_neg (by intro h; rw [hn, Bool.false_and] at h; cases h)]
           exact wpAny_pure hQ))
noncomputable def Itl (K : PySem.W.Frag) (a : Addr) : It :=
  ⟨fun i H => ∃ xs x, SqL K H a xs ∧ xs[i]? = some x, fun i H x H' => H' = H ∧ ∀ xs, SqL K H a xs → xs[i]? = some x, fun i H => ∃ xs, SqL K H a xs ∧ xs.length ≤ i⟩
noncomputable def Itr (lo : Int) (n : Nat) : It := ⟨fun i _ => i < n, fun i H x H' => H' = H ∧ x = .int (lo + i), fun i _ => n ≤ i⟩
theorem turn_list {P : Program} {w : World} {K : PySem.W.Frag} {tg : Expr} (a it : Addr) : Turn P w K tg (Itl K a) [it] it (fun i h => h.IsListIter it a i) where
  mem := by simp
  obj := fun i h st b hb => by
    have e : b = it := by simpa using hb
    subst e
    obtain ⟨o, e, c, d⟩ := st
    exact ⟨o, e, fun v z => by rw [d] at z; cases z⟩
  keep := fun i h h' st k => st.at fun o e => k it (by simp) o e
  item := by
    intro X hP hw hK hc i pins s σ H E I hf st hg
    subst hP hw hK
    obtain ⟨xs, x, hq, hx⟩ := hg
    obtain ⟨its, rv, p, hz⟩ := I.list hq
    obtain ⟨u, hu, ru⟩ := rv.get hx
    obtain ⟨f0, f1, f2, f3, f4, f5⟩ := hf it (by simp)
    refine wpAny_pyNext_list_item st p.isList (x := u) (by simpa using hu) fun h' st' sb => ?_
    have I1 : Inv X pins σ H { s with heap := h' } := I.turned (t' := s.toks) (fun b o hb e => (sb.2 b hb).trans e) f0 f1 f3 f4 f5
    obtain ⟨o, e, c, d⟩ := id st'
    exact ⟨u, rfl, go_of (s := { s with heap := h' }) e c d (by decide) ⟨x, H, I1, ru, ⟨rfl, fun ys hy => by rw [I.list_inj hy hq]; exact hx⟩, st', fun b hb => (hf b hb).1⟩⟩
  done := by
    intro X hP hw hK hc i pins s σ H E I hf st hg
    subst hP hw hK
    obtain ⟨xs, hq, hx⟩ := hg
    obtain ⟨its, rv, p, hz⟩ := I.list hq
    obtain ⟨f0, f1, f2, f3, f4, f5⟩ := hf it (by simp)
    have hl := rv.length
    exact wpAny_pyNext_list_end (I.ok.hd hc) st p.isList (by simp; omega) fun h' eb => ⟨rfl, I.turned (t' := s.toks) (fun b o hb e => eb b o hb e) f0 f1 f3 f4 f5⟩
  self := fun _ _ _ _ _ st h => wpAny_pyIter_listiter st h
theorem turn_range {P : Program} {w : World} {K : PySem.W.Frag} {tg : Expr} (it : Addr) (lo : Int) (n : Nat) : Turn P w K tg (Itr lo n) [it] it (fun i h => IsRangeIter h it (lo + (i : Nat) * 1) ((n : Int) - (i : Nat)) 1) where
  mem := by simp
  obj := fun i h st b hb => by
    have e : b = it := by simpa using hb
    subst e
    exact ⟨_, st, fun v z => by
      have z' : Data.fields _ = Data.cell v := z
      cases z'⟩
  keep := fun i h h' st k => k it (by simp) _ st
  item := by
    intro X hP hw hK hc i pins s σ H E I hf st hg
    subst hP hw hK
    obtain ⟨f0, f1, f2, f3, f4, f5⟩ := hf it (by simp)
    have W := Walks.range (prog := X.prog) (w := X.w) (I.ok.hd hc) it lo 1 n
    refine W.item i s _ _ hg st fun v h' tk hv st' kk => ?_
    obtain ⟨t, rfl⟩ := hv
    have I1 : Inv X pins σ H { s with heap := h', toks := tk } := I.turned (fun b o hb e => kk b o (by simpa using hb) e) f0 f1 f3 f4 f5
    refine ⟨_, rfl, go_of (s := { s with heap := h', toks := tk }) (n := "range_iterator") st' rfl rfl (by decide) ⟨.int (lo + i), H, I1, ⟨t, ?_⟩, ⟨rfl, rfl⟩, st', fun b hb => (hf b hb).1⟩⟩
    rw [Int.mul_one]
  done := by
    intro X hP hw hK hc i pins s σ H E I hf st hg
    subst hP hw hK
    obtain ⟨f0, f1, f2, f3, f4, f5⟩ := hf it (by simp)
    exact wpAny_pyNext_range_end (I.ok.hd hc) st (by have : n ≤ i := hg; omega) fun h' eb => ⟨rfl, I.turned (t' := s.toks) (fun b o hb e => eb b o hb e) f0 f1 f3 f4 f5⟩
  self := fun _ _ _ _ _ st h => wpAny_pyIter_rangeiter st h
end L2
namespace L2
open PySem PySem.Spec PyProof.Rows
section
variable {X : Cx} {tg : Expr}
noncomputable def iList (K : PySem.W.Frag) (tl : TE) : TI := fun σ H R => tl σ H fun x H1 => ∃ a, x = .ref a ∧ (∃ xs, SqL K H1 a xs) ∧ R (Itl K a) H1
theorem pi_list {l : Expr} {tl : TE} (hl : PE X l tl) : PI X tg l (iList X.K tl) := by
  intro pins s σ H R I h
  refine thn (hl pins s σ H _ I h) fun v s1 ⟨x, H1, I1, r1, q1⟩ => ?_
  obtain ⟨a, e, ⟨xs, hq⟩, q⟩ := q1
  subst e
  cases r1
  obtain ⟨its, rv, p, hz⟩ := I1.list hq
  refine wpAny_pyIter_list p.isList ?_
  refine ⟨s1.heap.objs.size, [s1.heap.objs.size], _, _, H1, rfl, I1.kept (t' := s1.toks) fun b o e => Heap.get?_push_of_some _ e, turn_list a _, ⟨_, Heap.get?_push_size _ rfl, rfl, rfl⟩, fun b hb => ?_, q⟩
  have e : b = s1.heap.objs.size := by simpa using hb
  subst e
  exact I1.fpOk (Nat.le_refl _) (I1.hok.fresh (Nat.le_refl _))
theorem range_it {pins : List (Addr × Obj)} {σ : St} {H : Hp} {s : Shared} {R : It → Hp → Prop} {E : Value → Shared → Prop} {lo hi : Int} {t u v : Tok} {tk : Nat} (I : Inv X pins σ H s) (h1 : -(2 ^ 62) ≤ lo) (h2 : lo < 2 ^ 62) (h3 : -(2 ^ 62) ≤ hi) (h4 : hi < 2 ^ 62)
    (q : R (Itr lo (hi - lo).toNat) H) : wpAny (model X.prog X.w) X.A (pyIter (.ref s.heap.objs.size)) (PIE X pins σ tg R) E { s with heap := s.heap.push { cls := .type "range", data := .fields #[.int lo t, .int hi u, .int 1 v] }, toks := tk } := by
  refine wpAny_pyIter_range (IsRange.new ..) (small_one h1 h2 h3 h4) ?_
  have I1 : Inv X pins σ H { s with heap := s.heap.push { cls := .type "range", data := .fields #[.int lo t, .int hi u, .int 1 v] }, toks := tk } := I.kept fun b o e => Heap.get?_push_of_some _ e
  refine ⟨(s.heap.push { cls := .type "range", data := .fields #[.int lo t, .int hi u, .int 1 v] }).objs.size, [(s.heap.push { cls := .type "range", data := .fields #[.int lo t, .int hi u, .int 1 v] }).objs.size], _, _, H, rfl,
    I1.kept (t' := tk) fun b o e => Heap.get?_push_of_some _ e, turn_range _ lo (hi - lo).toNat, ?_, fun b hb => ?_, q⟩
  · have e1 : lo + ((0 : Nat) : Int) * 1 = lo := by simp
    have e2 : (((hi - lo).toNat : Nat) : Int) - ((0 : Nat) : Int) = Builtin.Range.rangeSize lo hi 1 := by rw [rangeSize_one]; split <;> omega
    show IsRangeIter _ _ (lo + ((0 : Nat) : Int) * 1) ((((hi - lo).toNat : Nat) : Int) - ((0 : Nat) : Int)) 1
    rw [e1, e2]
    exact Heap.get?_push_size _ rfl
  · have e : b = (s.heap.push { cls := .type "range", data := .fields #[.int lo t, .int hi u, .int 1 v] }).objs.size := by simpa using hb
    subst e
    exact I1.fpOk (Nat.le_refl _) (I1.hok.fresh (Nat.le_refl _))
noncomputable def iRng1 (ta : TA) : TI := fun σ H R => ta σ H fun vs H1 => ∃ j : Int, vs = [.int j] ∧ -(2 ^ 62) ≤ j ∧ j < 2 ^ 62 ∧ R (Itr 0 j.toNat) H1
theorem pi_range1 {a : Expr} {ta : TA} {p pos : Pos} (hg : Gl X "range") (hm : X.mg "range" = none) (ha : PA X [a] ta) (hs : starEach [a] X.env = [(false, eval a X.env)] := by rfl) : PI X tg (.Call (.Name "range" p) [a] [] pos) (iRng1 ta) := by
  intro pins s σ H R I h
  refine Call_ (ld_blt I hg hm boot_range (PyProof.Rows.callWith_type1 (thn (ha pos pins s σ H _ I h) fun us s1 ⟨vs, H1, I1, r1, q1⟩ => ?_) hs rfl))
  obtain ⟨j, e, q1, q2, q⟩ := q1
  subst e
  cases r1 with
  | cons r rr =>
    cases rr
    obtain ⟨t, rfl⟩ := r
    exact call_range_1 (range_it I1 (by omega) (by omega) q1 q2 (by simpa using q))
noncomputable def tFor (wi : TI) (g : TG) (tb : TS) : TS := fun D σ H => wi σ H fun J H1 => ∃ W : Nat → Nat → St → Hp → Prop, (∃ m, W 0 m σ H1) ∧ ∀ i m σ H, W i m σ H →
  (J.stop i H ∧ D.nx σ H) ∨ (J.go i H ∧ ∃ N : St → Hp → Prop, (∀ σ' H', N σ' H' → ∃ m', m' < m ∧ W (i + 1) m' σ' H') ∧ ∀ x H', J.yld i H x H' → g x σ H' fun σ2 H2 => tb { D with nx := N, ct := N, bk := D.nx } σ2 H2)
noncomputable def pinsAt (fp : List Addr) (h : Heap) : List (Addr × Obj) := fp.filterMap fun b => (h.get? b).map fun o => (b, o)
theorem mem_pinsAt {fp : List Addr} {h : Heap} {b : Addr} {o : Obj} (hb : b ∈ fp) (e : h.get? b = some o) : (b, o) ∈ pinsAt fp h := List.mem_filterMap.mpr ⟨b, hb, by rw [e]; rfl⟩
theorem of_pinsAt {fp : List Addr} {h : Heap} {p : Addr × Obj} (hp : p ∈ pinsAt fp h) : p.1 ∈ fp ∧ h.get? p.1 = some p.2 := by
  obtain ⟨b, hb, e⟩ := List.mem_filterMap.mp hp
  cases q : h.get? b with
  | none => rw [q] at e; cases e
  | some o =>
    rw [q] at e
    have e' : (b, o) = p := Option.some.inj e
    subst e'
    exact ⟨hb, q⟩
theorem Inv.pinned {pins : List (Addr × Obj)} {σ : St} {H : Hp} {s : Shared} {fp : List Addr} (I : Inv X pins σ H s) (hf : ∀ b ∈ fp, FpOk X pins H b) (ho : ∀ b ∈ fp, ∃ o, s.heap.get? b = some o ∧ ∀ v, o.data ≠ .cell v) : Inv X (pins ++ pinsAt fp s.heap) σ H s :=
  I.pins_of fun p hp => (List.mem_append.mp hp).elim (fun z => I.pin p (List.mem_append_right _ z)) fun z => by
    obtain ⟨hb, e⟩ := of_pinsAt z
    obtain ⟨f0, f1, f2, _⟩ := hf p.1 hb
    obtain ⟨o, e', d⟩ := ho p.1 hb
    rw [e] at e'; cases e'
    exact ⟨e, f0, f1, f2, d⟩
theorem Inv.unpinned {pins pl : List (Addr × Obj)} {σ : St} {H : Hp} {s : Shared} (I : Inv X (pins ++ pl) σ H s) : Inv X pins σ H s := I.pins_of fun p hp => I.pin p (List.mem_append_right _ (List.mem_append_left _ hp))
theorem ps_for {iter : Expr} {body : List Stmt} {wi : TI} {g : TG} {tb : TS} {pos : Pos} (hp : PassesOwn (model X.prog X.w) X.A X.env X.xe) (hc : X.calm = true) (hi : PI X tg iter wi) (hg : PG X tg g) (hb : PSs X body tb)
    (hs : ∀ x, foldedSetIterable iter X.env x = pure x := by intro _; rfl) : PS X (.For tg iter body [] pos) (tFor wi g tb) := by
  intro pins s σ H D I h
  refine wpAny_For (thn (hi pins s σ H _ I h) fun v s1 h1 => thn h1 fun itv s2 h2 => ?_) hs
  obtain ⟨it, fp, tn, J, H2, e, I2, T, st2, f2, W, ⟨m0, w0⟩, turn⟩ := h2
  subst e
  have stat : ∀ {H' : Hp}, (∀ b ∈ fp, H' b = none) → ∀ b ∈ fp, FpOk X pins H' b := fun hn b hb => ⟨hn b hb, (f2 b hb).2⟩
  refine codeAny_forLoop_any (fun n s' => ∃ i σ' H', Inv X pins σ' H' s' ∧ tn i s'.heap ∧ (∀ b ∈ fp, H' b = none) ∧ W i n σ' H') ?_ m0 ⟨0, σ, H2, I2, st2, fun b hb => (f2 b hb).1, w0⟩
  rintro n s3 ⟨i, σ3, H3, I3, st3, fr3, w3⟩
  rcases turn i n σ3 H3 w3 with ⟨stop, qn⟩ | ⟨go, N, hN, step⟩
  · refine wpAny_passesOwn hp (thn (T.done X rfl rfl rfl hc i pins s3 σ3 H3 X.xe I3 (stat fr3) st3 stop) fun r s4 ⟨hr, I4⟩ => ?_)
    subst hr
    exact wpAny_execs_nil ⟨σ3, H3, I4, qn⟩
  · refine wpAny_passesOwn hp (thn (T.item X rfl rfl rfl hc i pins s3 σ3 H3 X.xe I3 (stat fr3) st3 go) fun r s4 ⟨u, hr, h4⟩ => ?_)
    subst hr
    refine wpAny_passesOwn hp (thn h4 fun _ s5 ⟨x, H5, I5, r5, y5, st5, fr5⟩ => ?_)
    have I5' := I5.pinned (stat fr5) (T.obj _ _ st5)
    refine wpAny_passesOwn hp (thn (hg _ s5 σ3 H5 x u _ I5' r5 (step x H5 y5)) fun _ s6 ⟨σ6, H6, I6, q6⟩ => ?_)
    refine wpAny_passesOwn hp (thn (hb _ s6 σ6 H6 _ I6 q6) fun f s7 q7 => ?_)
    have again : ∀ {σ7 : St} {H7 : Hp}, Inv X (pins ++ pinsAt fp s5.heap) σ7 H7 s7 → N σ7 H7 → ∃ m, m < n ∧ ∃ i σ' H', Inv X pins σ' H' s7 ∧ tn i s7.heap ∧ (∀ b ∈ fp, H' b = none) ∧ W i m σ' H' := fun {σ7 H7} I7 n7 => by
      obtain ⟨m', hm, w7⟩ := hN σ7 H7 n7
      refine ⟨m', hm, i + 1, σ7, H7, I7.unpinned, T.keep _ _ _ st5 fun b hb o e => (I7.pin (b, o) (List.mem_append_right _ (List.mem_append_right _ (mem_pinsAt hb e)))).1, fun b hb => ?_, w7⟩
      obtain ⟨o, e, d⟩ := T.obj _ _ st5 b hb
      exact (I7.pin (b, o) (List.mem_append_right _ (List.mem_append_right _ (mem_pinsAt hb e)))).2.1
    cases f with
    | next => obtain ⟨σ7, H7, I7, n7⟩ := q7; exact again I7 n7
    | cont => obtain ⟨σ7, H7, I7, n7⟩ := q7; exact again I7 n7
    | brk => obtain ⟨σ7, H7, I7, q7⟩ := q7; exact ⟨σ7, H7, I7.unpinned, q7⟩
    | ret v => obtain ⟨x7, σ7, H7, I7, r7, q7⟩ := q7; exact ⟨x7, σ7, H7, I7.unpinned, r7, q7⟩
end
end L2
namespace L2
open PySem PySem.Spec PyProof.Rows
noncomputable abbrev R2 := V → V → Hp → VK → Prop
noncomputable def OpR (X : Cx) (f : Value → Value → Sem Value) (r : R2) : Prop :=
  ∀ (pins : List (Addr × Obj)) (s : Shared) (σ : St) (H : Hp) (x y : V) (v u : Value) (Q : VK), Inv X pins σ H s → RelV x v → RelV y u → r x y H Q →
    wpAny (model X.prog X.w) X.A (f v u) (EP X pins σ Q) X.xe s
noncomputable def UnR (X : Cx) (f : Value → Sem Value) (r : V → Hp → VK → Prop) : Prop :=
  ∀ (pins : List (Addr × Obj)) (s : Shared) (σ : St) (H : Hp) (x : V) (v : Value) (Q : VK), Inv X pins σ H s → RelV x v → r x H Q →
    wpAny (model X.prog X.w) X.A (f v) (EP X pins σ Q) X.xe s
noncomputable def CallR (X : Cx) (f : Value) (r : List V → Hp → VK → Prop) : Prop :=
  ∀ (pins : List (Addr × Obj)) (s : Shared) (σ : St) (H : Hp) (xs : List V) (us : List Value) (Q : VK), Inv X pins σ H s → Vals xs us → r xs H Q →
    wpAny (model X.prog X.w) X.A (call f us) (EP X pins σ Q) X.xe s
noncomputable def TruR (X : Cx) (r : V → Hp → (Bool → Hp → Prop) → Prop) : Prop :=
  ∀ (pins : List (Addr × Obj)) (s : Shared) (σ : St) (H : Hp) (x : V) (v : Value) (Q : Bool → Hp → Prop), Inv X pins σ H s → RelV x v → r x H Q →
    wpAny (model X.prog X.w) X.A (truthy v) (TP X pins σ Q) X.xe s
noncomputable def tOp (r : R2) (ta tb : TE) : TE := fun σ H Q => ta σ H fun x H1 => tb σ H1 fun y H2 => r x y H2 Q
noncomputable def tUn (r : V → Hp → VK → Prop) (ta : TE) : TE := fun σ H Q => ta σ H fun x H1 => r x H1 Q
noncomputable def rI (C : Int → Int → Prop) (g : Int → Int → V) : R2 := fun x y H Q => ∃ i j, x = .int i ∧ y = .int j ∧ C i j ∧ Q (g i j) H
noncomputable def rI0 (g : Int → Int → V) : R2 := fun x y H Q => ∃ i j, x = .int i ∧ y = .int j ∧ Q (g i j) H
noncomputable def rU (g : Int → V) : V → Hp → VK → Prop := fun x H Q => ∃ i, x = .int i ∧ Q (g i) H
section
variable {X : Cx} {a b c : Expr} {ta tb tc : TE} {pos : Pos}
theorem binT (ha : PE X a ta) (hb : PE X b tb) {pins : List (Addr × Obj)} {s : Shared} {σ : St} {H : Hp} {R : V → V → Hp → Prop} (I : Inv X pins σ H s)
    (h : ta σ H fun x H1 => tb σ H1 fun y H2 => R x y H2) {Q : Value → Shared → Prop} {f : Value → Value → Sem Value}
    (hf : ∀ v u s2 x y H2, Inv X pins σ H2 s2 → RelV x v → RelV y u → R x y H2 → wpAny (model X.prog X.w) X.A (f v u) Q X.xe s2) :
    wpAny (model X.prog X.w) X.A (eval a X.env) (fun v s₁ => wpAny (model X.prog X.w) X.A (eval b X.env) (fun u s₂ => wpAny (model X.prog X.w) X.A (f v u) Q X.xe s₂) X.xe s₁) X.xe s := by
  refine thn (ha pins s σ H _ I h) fun v s1 ⟨x, H1, I1, r1, q1⟩ => ?_
  refine thn (hb pins s1 σ H1 _ I1 q1) fun u s2 ⟨y, H2, I2, r2, q2⟩ => ?_
  exact hf v u s2 x y H2 I2 r1 r2 q2
theorem pe_op {op : Operator} {r : R2} (ho : OpR X (binaryOp op) r) (ha : PE X a ta) (hb : PE X b tb) : PE X (.BinOp a op b pos) (tOp r ta tb) := by
  intro pins s σ H Q I h
  exact wpAny_BinOp (binT ha hb I h fun v u s2 x y H2 I2 rx ry q => ho pins s2 σ H2 x y v u Q I2 rx ry q)
theorem pe_un {op : UnaryOp} {r : V → Hp → VK → Prop} (ho : UnR X (unaryOp op) r) (ha : PE X a ta) : PE X (.UnaryOp op a pos) (tUn r ta) := by
  intro pins s σ H Q I h
  exact UnaryOp_ (thn (ha pins s σ H _ I h) fun v s1 ⟨x, H1, I1, r1, q1⟩ => ho pins s1 σ H1 x v Q I1 r1 q1)
theorem opI {f : Value → Value → Sem Value} {C : Int → Int → Prop} {g : Int → Int → Int}
    (rule : ∀ (i j : Int) (t u : Tok) (s : Shared) (Q : Value → Shared → Prop) (E : Value → Shared → Prop), C i j → Q (.int (g i j) s.toks) { s with toks := s.toks + 1 } → wpAny (model X.prog X.w) X.A (f (.int i t) (.int j u)) Q E s) :
    OpR X f (rI C fun i j => .int (g i j)) := by
  intro pins s σ H x y v u Q I rx ry h
  obtain ⟨i, j, rfl, rfl, hc, q⟩ := h
  obtain ⟨t, rfl⟩ := rx
  obtain ⟨t', rfl⟩ := ry
  exact rule i j t t' s _ _ hc ⟨.int (g i j), H, I.tok _, ⟨_, rfl⟩, q⟩
theorem opI0 {f : Value → Value → Sem Value} {g : Int → Int → Int}
    (rule : ∀ (i j : Int) (t u : Tok) (s : Shared) (Q : Value → Shared → Prop) (E : Value → Shared → Prop), Q (.int (g i j) s.toks) { s with toks := s.toks + 1 } → wpAny (model X.prog X.w) X.A (f (.int i t) (.int j u)) Q E s) :
    OpR X f (rI0 fun i j => .int (g i j)) := by
  intro pins s σ H x y v u Q I rx ry h
  obtain ⟨i, j, rfl, rfl, q⟩ := h
  obtain ⟨t, rfl⟩ := rx
  obtain ⟨t', rfl⟩ := ry
  exact rule i j t t' s _ _ ⟨.int (g i j), H, I.tok _, ⟨_, rfl⟩, q⟩
theorem opB0 {f : Value → Value → Sem Value} {g : Int → Int → Bool}
    (rule : ∀ (i j : Int) (t u : Tok) (s : Shared) (Q : Value → Shared → Prop) (E : Value → Shared → Prop), Q (.bool (g i j)) s → wpAny (model X.prog X.w) X.A (f (.int i t) (.int j u)) Q E s) :
    OpR X f (rI0 fun i j => .bl (g i j)) := by
  intro pins s σ H x y v u Q I rx ry h
  obtain ⟨i, j, rfl, rfl, q⟩ := h
  obtain ⟨t, rfl⟩ := rx
  obtain ⟨t', rfl⟩ := ry
  exact rule i j t t' s _ _ ⟨.bl (g i j), H, I, rfl, q⟩
noncomputable def CDiv (i j : Int) : Prop := 0 < j ∧ j < 1073741824
noncomputable def CMul (i j : Int) : Prop := (-(2 ^ 64) < i ∧ i < 2 ^ 64) ∨ (-(2 ^ 64) < j ∧ j < 2 ^ 64)
theorem CMul.ok {i j : Int} (h : CMul i j) : IntMulOk i j := by
  rcases h with ⟨h1, h2⟩ | ⟨h1, h2⟩
  · exact .of_left (intBits_le_64 h1 h2)
  · exact .of_right (intBits_le_64 h1 h2)
theorem op_add : OpR X (binaryOp .Add) (rI0 fun i j => .int (i + j)) := opI0 fun _ _ _ _ _ _ _ q => add_int q
theorem op_sub : OpR X (binaryOp .Sub) (rI0 fun i j => .int (i - j)) := opI0 fun _ _ _ _ _ _ _ q => sub_int q
theorem op_mul : OpR X (binaryOp .Mult) (rI CMul fun i j => .int (i * j)) := opI fun _ _ _ _ _ _ _ hc q => mul_int q hc.ok
theorem op_fdiv : OpR X (binaryOp .FloorDiv) (rI CDiv fun i j => .int (i / j)) := opI fun i j _ _ _ _ _ hc q => by
  have h1 : (0 : Int) < j := hc.1
  have h2 : j < 1073741824 := hc.2
  exact floordiv_int (by omega) (by rw [Int.fdiv_eq_ediv_of_nonneg i (by omega)]; exact q) (.inl (PyProof.noPylong_small (by omega)))
theorem op_mod : OpR X (binaryOp .Mod) (rI (fun _ j => 0 < j) fun i j => .int (i % j)) := opI fun i j _ _ _ _ _ hc q => by
  have h1 : (0 : Int) < j := hc
  exact mod_int' (by omega) (by rw [Int.fmod_eq_emod_of_nonneg i (by omega)]; exact q)
theorem unI {f : Value → Sem Value} {g : Int → Int}
    (rule : ∀ (i : Int) (t : Tok) (s : Shared) (Q : Value → Shared → Prop) (E : Value → Shared → Prop), Q (.int (g i) s.toks) { s with toks := s.toks + 1 } → wpAny (model X.prog X.w) X.A (f (.int i t)) Q E s) :
    UnR X f (rU fun i => .int (g i)) := by
  intro pins s σ H x v Q I rx h
  obtain ⟨i, rfl, q⟩ := h
  obtain ⟨t, rfl⟩ := rx
  exact rule i t s _ _ ⟨.int (g i), H, I.tok _, ⟨_, rfl⟩, q⟩
theorem un_neg : UnR X (unaryOp .USub) (rU fun i => .int (-i)) := unI fun _ _ _ _ _ q => neg_int q
end
section
variable {X : Cx} {a b c : Expr} {ta tb tc : TE} {pos : Pos}
theorem fin_bl {pins : List (Addr × Obj)} {σ : St} {H : Hp} {s : Shared} {Q : VK} {k k' : Bool} (I : Inv X pins σ H s) (q : Q (.bl k) H) (e : k = k') : EP X pins σ Q (.bool k') s := by
  subst e
  exact ⟨.bl k, H, I, rfl, q⟩
theorem op_lt : OpR X (compareOp .Lt) (rI0 fun i j => .bl (decide (i < j))) := opB0 fun _ _ _ _ _ _ _ q => lt_int q
theorem op_le : OpR X (compareOp .LtE) (rI0 fun i j => .bl (decide (i ≤ j))) := opB0 fun _ _ _ _ _ _ _ q => le_int q
theorem op_gt : OpR X (compareOp .Gt) (rI0 fun i j => .bl (decide (j < i))) := opB0 fun _ _ _ _ _ _ _ q => gt_int q
theorem op_isN : OpR X (compareOp .Is) (fun x y H Q => y = .non ∧ Q (.bl (decide (x = .non))) H) := by
  intro pins s σ H x y v u Q I rx ry h
  obtain ⟨rfl, q⟩ := h
  cases ry
  refine is_none_gen (fin_bl I q ?_)
  cases x <;> first
    | (cases rx; rfl)
    | (obtain ⟨t, rfl⟩ := rx; rfl)
theorem OpR.or {f : Value → Value → Sem Value} {r r' : R2} (h : OpR X f r) (h' : OpR X f r') : OpR X f (fun x y H Q => r x y H Q ∨ r' x y H Q) := by
  intro pins s σ H x y v u Q I rx ry q
  rcases q with q | q
  · exact h pins s σ H x y v u Q I rx ry q
  · exact h' pins s σ H x y v u Q I rx ry q
theorem nomark (b : Expr) {op : CmpOp} (h : op ≠ .In := by decide) (h2 : op ≠ .NotIn := by decide) : behindInMarks op b = false := by
  have e1 : (op == CmpOp.In) = false := by cases op <;> first | rfl | exact absurd rfl h
  have e2 : (op == CmpOp.NotIn) = false := by cases op <;> first | rfl | exact absurd rfl h2
  cases b <;> simp [behindInMarks, e1, e2]
theorem pe_cmpR {op : CmpOp} {r : R2} (ho : OpR X (compareOp op) r) (ha : PE X a ta) (hb : PE X b tb) (hm : behindInMarks op b = false) : PE X (.Compare a [op] [b] pos) (tOp r ta tb) := by
  intro pins s σ H Q I h
  exact wpAny_Compare1 (binT ha hb I h fun v u s2 x y H2 I2 rx ry q => ho pins s2 σ H2 x y v u Q I2 rx ry q) hm
noncomputable def tTest (t : TE) : TT := fun σ H Q => t σ H fun x H' => ∃ k, x = .bl k ∧ Q k H'
theorem pt_cmpR {op : CmpOp} {r : R2} (ho : OpR X (compareOp op) r) (ha : PE X a ta) (hb : PE X b tb) (hm : behindInMarks op b = false) : PT X (.Compare a [op] [b] pos) (tTest (tOp r ta tb)) := by
  intro pins s σ H Q I h
  refine wpAny_isTrue_Compare1 (thn (ha pins s σ H _ I h) fun v s1 ⟨x, H1, I1, r1, q1⟩ => thn (hb pins s1 σ H1 _ I1 q1) fun u s2 ⟨y, H2, I2, r2, q2⟩ =>
    thn (ho pins s2 σ H2 x y v u _ I2 r1 r2 q2) fun c s3 ⟨z, H3, I3, r3, k, e, q3⟩ => ?_) hm
  subst e
  cases r3
  exact wpAny_truthy_bool ⟨H3, I3, q3⟩
noncomputable def tChain (r r' : R2) (ta tb tc : TE) : TE := fun σ H Q => ta σ H fun x H1 => tb σ H1 fun y H2 => r x y H2 fun z H3 => ∃ k, z = .bl k ∧
  (if k = true then tc σ H3 fun w' H4 => r' y w' H4 Q else Q (.bl false) H3)
theorem pe_chain {op op' : CmpOp} {r r' : R2} (ho : OpR X (compareOp op) r) (ho' : OpR X (compareOp op') r') (ha : PE X a ta) (hb : PE X b tb) (hc : PE X c tc)
    (hm : lastMarks [op, op'] [b, c] = false := by with_unfolding_all rfl) : PE X (.Compare a [op, op'] [b, c] pos) (tChain r r' ta tb tc) := by
  intro pins s σ H Q I h
  refine Compare_chain (thn (ha pins s σ H _ I h) fun v s1 ⟨x, H1, I1, r1, q1⟩ => chain_link (thn (hb pins s1 σ H1 _ I1 q1) fun u s2 ⟨y, H2, I2, r2, q2⟩ =>
    thn (ho pins s2 σ H2 x y v u _ I2 r1 r2 q2) fun d s3 ⟨z, H3, I3, r3, k, e, q3⟩ => ?_)) hm
  subst e
  cases r3
  refine wpAny_truthy_bool ?_
  cases k with
  | false => exact ite_ff ⟨.bl false, H3, I3, rfl, q3⟩
  | true => exact ite_tt (chain_last (thn (hc pins s3 σ H3 _ I3 q3) fun w' s4 ⟨z', H4, I4, r4, q4⟩ => ho' pins s4 σ H4 y z' u w' Q I4 r2 r4 q4))
theorem pt_chain {op op' : CmpOp} {r r' : R2} (ho : OpR X (compareOp op) r) (ho' : OpR X (compareOp op') r') (ha : PE X a ta) (hb : PE X b tb) (hc : PE X c tc)
    (hm : lastMarks [op, op'] [b, c] = false := by with_unfolding_all rfl) : PT X (.Compare a [op, op'] [b, c] pos) (tTest (tChain r r' ta tb tc)) := by
  intro pins s σ H Q I h
  refine isTrue_chain (thn (ha pins s σ H _ I h) fun v s1 ⟨x, H1, I1, r1, q1⟩ => test_link (thn (hb pins s1 σ H1 _ I1 q1) fun u s2 ⟨y, H2, I2, r2, q2⟩ =>
    thn (ho pins s2 σ H2 x y v u _ I2 r1 r2 q2) fun d s3 ⟨z, H3, I3, r3, k, e, q3⟩ => ?_)) hm
  subst e
  cases r3
  refine wpAny_truthy_bool ?_
  cases k with
  | false =>
    obtain ⟨k', e', q'⟩ := q3
    cases e'
    exact ite_ff ⟨H3, I3, q'⟩
  | true =>
    refine ite_tt (test_last (thn (hc pins s3 σ H3 _ I3 q3) fun w' s4 ⟨z', H4, I4, r4, q4⟩ => thn (ho' pins s4 σ H4 y z' u w' _ I4 r2 r4 q4) fun d' s5 ⟨z2, H5, I5, r5, k2, e2, q5⟩ => ?_))
    subst e2
    cases r5
    exact wpAny_truthy_bool ⟨H5, I5, q5⟩
noncomputable def TruV (K : PySem.W.Frag) (x : V) (H : Hp) (k : Bool) : Prop :=
  match x with
  | .non => k = false
  | .bl b => k = b
  | .int i => k = (i != 0)
  | .str y => y.length ≤ sizeLine ∧ k = ((y.length : Int) != 0)
  | .byt y => y.size ≤ sizeLine ∧ k = ((y.size : Int) != 0)
  | .ref p => (∃ xs, SqL K H p xs ∧ k = !xs.isEmpty) ∨ (∃ xs, SqT K H p xs ∧ k = !xs.isEmpty) ∨ ∃ kvs, H p = some (.dK kvs) ∧ k = !kvs.isEmpty
  | _ => False
theorem isEmpty_kv {κ : Type} {kvs : List (κ × V)} {vs : List (κ × Value)} (r : KV kvs vs) : (!vs.isEmpty) = !kvs.isEmpty := by
  cases r <;> rfl
theorem isEmpty_of {xs : List V} {its : List Value} (r : Vals xs its) : (!its.toArray.isEmpty) = !xs.isEmpty := by
  cases r <;> simp
theorem line63 : (sizeLine : Nat) < 2 ^ 63 := by rw [sizeLine_eq]; decide
theorem tru_ok : TruR X (fun x H Q => ∃ k, TruV X.K x H k ∧ Q k H) := by
  intro pins s σ H x v Q I rx h
  obtain ⟨k, e, q⟩ := h
  have hl := line63
  have hs : sizeLine = 16777216 := sizeLine_eq
  cases x with
  | non =>
    cases rx
    have e' : k = false := e
    subst e'
    exact truthy_none ⟨H, I, q⟩
  | bl b =>
    cases rx
    have e' : k = b := e
    subst e'
    exact wpAny_truthy_bool ⟨H, I, q⟩
  | int i =>
    obtain ⟨t, rfl⟩ := rx
    have e' : k = (i != 0) := e
    subst e'
    exact PySem.P.truthy_int ⟨H, I, q⟩
  | str y =>
    obtain ⟨t, rfl⟩ := rx
    obtain ⟨hy, e'⟩ : y.length ≤ sizeLine ∧ k = ((y.length : Int) != 0) := e
    subst e'
    exact PySem.P.truthy_str (by omega) ⟨H, I.tok _, q⟩
  | byt y =>
    obtain ⟨t, rfl⟩ := rx
    obtain ⟨hy, e'⟩ : y.size ≤ sizeLine ∧ k = ((y.size : Int) != 0) := e
    subst e'
    exact PySem.W.truthy_bytes (by omega) ⟨H, I.tok _, q⟩
  | ref p =>
    cases rx
    have e' : (∃ xs, SqL X.K H p xs ∧ k = !xs.isEmpty) ∨ (∃ xs, SqT X.K H p xs ∧ k = !xs.isEmpty) ∨ ∃ kvs, H p = some (.dK kvs) ∧ k = !kvs.isEmpty := e
    rcases e' with ⟨xs, hx, e'⟩ | ⟨xs, hx, e'⟩ | ⟨kvs, hx, e'⟩
    · subst e'
      obtain ⟨its, r, pl, hz⟩ := I.list hx
      have hlen := r.length
      exact wpAny_truthy_list pl.isList (by simp only [List.size_toArray]; omega) ⟨H, I.tok _, by rw [isEmpty_of r]; exact q⟩
    · subst e'
      obtain ⟨its, r, pl, hz⟩ := I.tuple hx
      have hlen := r.length
      exact truthy_tuple pl (by simp only [List.size_toArray]; omega) ⟨H, I.tok _, by rw [isEmpty_of r]; exact q⟩
    · subst e'
      obtain ⟨hz, hS, vs, r, m⟩ : kvs.length ≤ sizeLine ∧ (p == sysModules) = false ∧ ∃ vs, KV kvs vs ∧ s.heap.DictOf (mixKind X.prog X.w) p vs := I.hok p _ hx
      have hlen : kvs.length = vs.length := Paired.length r
      exact wpAny_truthy_dict hS m (by omega) ⟨H, I.tok _, by rw [isEmpty_kv r]; exact q⟩
  | _ => exact (show False from e).elim
theorem pt_truth (ha : PE X a ta) (he : ∀ whole, isTrue a X.env whole = (do let v ← whole; standAt a.pos; holding [v] (truthy v))) :
    PT X a (fun σ H Q => ta σ H fun x H' => ∃ k, TruV X.K x H' k ∧ Q k H') := by
  intro pins s σ H Q I h
  exact isTrue_plain (thn (ha pins s σ H _ I h) fun v s1 ⟨x, H1, I1, r1, q1⟩ => tru_ok pins s1 σ H1 x v Q I1 r1 q1) (he _)
theorem vals1 {x : V} {us : List Value} (r : Vals [x] us) : ∃ u, us = [u] ∧ RelV x u := by
  cases r with
  | cons r1 r2 => cases r2; exact ⟨_, rfl, r1⟩
theorem vals2 {x y : V} {us : List Value} (r : Vals [x, y] us) : ∃ u w', us = [u, w'] ∧ RelV x u ∧ RelV y w' := by
  cases r with
  | cons r1 r2 =>
    cases r2 with
    | cons r3 r4 => cases r4; exact ⟨_, _, rfl, r1, r3⟩
theorem call_max2 (hc : X.calm = true) : CallR X (.builtin "max") (fun xs H Q => ∃ i j, xs = [.int i, .int j] ∧ Q (.int (if j > i then j else i)) H) := by
  intro pins s σ H xs us Q I r h
  obtain ⟨i, j, rfl, q⟩ := h
  obtain ⟨u, w', rfl, ⟨t, rfl⟩, ⟨t', rfl⟩⟩ := vals2 r
  refine max_two_ints (I.ok.hd hc) fun h' tk k => ⟨_, H, I.kept k, ?_, q⟩
  by_cases hj : j > i
  · rw [if_pos hj, if_pos hj]; exact ⟨_, rfl⟩
  · rw [if_neg hj, if_neg hj]; exact ⟨_, rfl⟩
end
end L2
namespace L2
open PySem PySem.Spec PyProof.Rows
structure ObjM (h : Heap) (x dx C : Addr) (mA : Str → Option Value) : Prop where
  obj : h.get? x = some (PySem.W.instObj C dx)
  ns : h.Ns1 dx mA
  ne : dx ≠ x
theorem lookIn_ns {h : Heap} {dx : Addr} {mA : Str → Option Value} (n : h.Ns1 dx mA) : ∃ od, h.get? dx = some od ∧ ∀ name, PySem.W.lookIn name od = some (mA name) := by
  obtain ⟨o, es, ep, ho, hd, hk, _, hm⟩ := n
  refine ⟨o, ho, fun name => ?_⟩
  have e := hm name
  unfold nsFind findBy at e
  rw [← Array.find?_toList] at e
  unfold PySem.W.lookIn
  rw [hd]
  dsimp only
  split
  · rename_i y q
    rw [q] at e
    exact congrArg some e
  · rename_i q
    rw [q] at e
    have a : es.toList.any (·.refKey) = false := by
      rw [List.any_eq_false]
      intro y hy
      obtain ⟨z, t, hkey⟩ := hk y (Array.mem_toList_iff.mp hy)
      simp [DictEntry.refKey, hkey]
    have a' : ¬ es.toList.any (·.refKey) = true := by rw [a]; exact Bool.false_ne_true
    rw [if_neg a']
    exact congrArg some e
theorem ObjM.look {h : Heap} {x dx C : Addr} {mA : Str → Option Value} (I : ObjM h x dx C mA) : ∃ od, PySem.W.InstAt h x (PySem.W.instObj C dx) C (some od) ∧ ∀ name, PySem.W.lookIn name od = some (mA name) :=
  let ⟨od, ho, hl⟩ := lookIn_ns I.ns
  ⟨od, ⟨I.obj, rfl, rfl, ho⟩, hl⟩
section
variable {prog : Program} {w : World} {A : Around} {E : Value → Shared → Prop} {s : Shared} {K : PySem.W.Frag} {x dx C f : Addr} {mA : Str → Option Value} {name : Str} {v : Value}
theorem get_map {expr : Bool} {Q : Value → Shared → Prop} (X : K.In s.heap) (I : ObjM s.heap x dx C mA) (hg : PySem.W.plainGet K C name = true) (hh : PySem.W.hasDictIn K C = true)
    (ha : PySem.W.findIn K (.ref C) name = some none) (hv : mA name = some v) (hv' : PySem.W.handedIn v = true) (h : Q v { s with toks := s.toks + 1 }) :
    wpAny (model prog w) A (getAttr (.ref x) name expr) Q E s := by
  obtain ⟨od, J, hl⟩ := I.look
  exact PySem.W.get_value X J (PySem.W.plainGet_of hg).1 (PySem.W.findObj_own hh ha rfl (by rw [hl, hv])) hv' h
theorem set_map {ns : List Str} {Q : Unit → Shared → Prop} (X : K.In s.heap) (I : ObjM s.heap x dx C mA)
    (hs : PySem.W.findIn K (.ref C) "__setattr__" = some (some (.builtin "object.__setattr__"))) (hp : PySem.W.plainOver K C = true) (ht : PySem.W.takerIn K C name = some none) (hh : PySem.W.hasDictIn K C = true)
    (hw : PySem.Within mA ns) (hsz : ns.length ≤ sizeLine)
    (h : ∀ h', ObjM h' x dx C (fun y => if y = name then some v else mA y) → Heap.SameBut dx s.heap h' → Q () { s with heap := h', toks := s.toks + 2 }) :
    wpAny (model prog w) A (setAttr (.ref x) name v) Q E s := by
  obtain ⟨od, J, hl⟩ := I.look
  refine PySem.W.set_plain X J hs (PySem.W.osa_open (s := { s with toks := s.toks + 1 }) (r := none) X J hp ht fun b => ?_)
  obtain ⟨cd, hc, hd'⟩ := PySem.W.any_some hh
  have hx : s.heap.get? x = some ⟨.ref C, some dx, .plain, #[]⟩ := I.obj
  refine wpAny_bind (wpAny_pure (wpAny_bind (wpAny_bind (wpAny_loadPart hx (wpAny_bind (PySem.W.Looks.here (s := { s with toks := s.toks + 1 }) (PySem.W.looks_clsIn X hc) ?_))))))
  rw [hd']
  refine wpAny_pure (a := some dx) (wpAny_bind (wpAny_pure (wpAny_bind ?_)))
  refine wpAny_nsSet1 (s := { s with toks := s.toks + 1 }) I.ns fun h' hn2 hs2 => ?_
  obtain ⟨oD, esD, epD, hoD, hdD, hcD⟩ := hn2.count (PySem.Within.cons name v hw)
  refine wpAny_bind (wpAny_lookBehind hoD (by rw [hdD]; exact pastItsLine_dict (Nat.le_trans hcD (by rw [List.length_cons]; omega))) ?_)
  exact wpAny_pure (h _ ⟨(hs2.2 _ (Ne.symm I.ne)).trans I.obj, hn2, I.ne⟩ hs2)
theorem make_map {R : Result → Shared → Prop} {vs : List Value} {kw : List (Str × Value)} (X : K.In s.heap) (hm : PySem.W.makesIn K C = true)
    (hi : PySem.W.findIn K (.ref C) "__init__" = some (some (.ref f))) (hf : PySem.W.typeIn K (.ref f) = some (.type "function"))
    (h : codeAny (model prog w) (A.under (.builtin "type.__call__" ⟨.ref C :: vs, kw⟩)) (.call (.ref f) ⟨.ref (s.heap.objs.size + 1) :: vs, kw⟩) (PySem.W.InitBack (s.heap.objs.size + 1) R)
      { s with heap := (s.heap.push PySem.W.emptyDict).push (PySem.W.instObj C s.heap.objs.size) }) :
    codeAny (model prog w) A (.call (.ref C) ⟨vs, kw⟩) R s := by
  obtain ⟨hh, g, d, t, os⟩ := s
  exact PySem.W.make_core (PySem.W.makes_of X hm) (PySem.W.looks_findIn X hi) (fun self => PySem.W.bind_fn X self hf) (.inl rfl) h
end
noncomputable def putF (f : Str) (v : V) : List (Str × V) → List (Str × V)
  | [] => [(f, v)]
  | (g, x) :: r => if g = f then (g, v) :: r else (g, x) :: putF f v r
theorem lookup_putF (f g : Str) (v : V) : ∀ fs : List (Str × V), (putF f v fs).lookup g = if g = f then some v else fs.lookup g
  | [] => by
    show List.lookup g [(f, v)] = _
    by_cases h : g = f
    · have hb : (g == f) = true := beq_iff_eq.mpr h
      simp only [List.lookup, hb, if_pos h]
    · have hb : (g == f) = false := beq_eq_false_iff_ne.mpr h
      simp only [List.lookup, hb, if_neg h]
  | (k, x) :: r => by
    have ih := lookup_putF f g v r
    rw [show putF f v ((k, x) :: r) = (if k = f then (k, v) :: r else (k, x) :: putF f v r) from rfl]
    by_cases hk : k = f
    · rw [if_pos hk]
      by_cases h : g = k
      · have hb : (g == k) = true := beq_iff_eq.mpr h
        simp only [List.lookup, hb, if_pos (h.trans hk)]
      · have hb : (g == k) = false := beq_eq_false_iff_ne.mpr h
        simp only [List.lookup, hb, if_neg (fun e : g = f => h (e.trans hk.symm))]
    · rw [if_neg hk]
      by_cases h : g = k
      · have hb : (g == k) = true := beq_iff_eq.mpr h
        simp only [List.lookup, hb, if_neg (fun e : g = f => hk (h.symm.trans e))]
      · have hb : (g == k) = false := beq_eq_false_iff_ne.mpr h
        simp only [List.lookup, hb]
        exact ih
theorem keys_putF (f : Str) (v : V) : ∀ fs : List (Str × V), f ∈ (putF f v fs).map (·.1) ∧ ∀ g, g ∈ fs.map (·.1) → g ∈ (putF f v fs).map (·.1)
  | [] => ⟨by simp [putF], fun g h => by simp at h⟩
  | (k, x) :: r => by
    obtain ⟨i1, i2⟩ := keys_putF f v r
    rw [show putF f v ((k, x) :: r) = (if k = f then (k, v) :: r else (k, x) :: putF f v r) from rfl]
    by_cases hk : k = f
    · rw [if_pos hk]
      subst hk
      exact ⟨by simp, fun g h => by simpa using h⟩
    · rw [if_neg hk]
      refine ⟨?_, fun g h => ?_⟩
      · rw [List.map_cons]
        exact List.mem_cons_of_mem _ i1
      · rw [List.map_cons] at h ⊢
        rcases List.mem_cons.mp h with e | e
        · exact List.mem_cons.mpr (.inl e)
        · exact List.mem_cons_of_mem _ (i2 g e)
theorem length_putF (f : Str) (v : V) : ∀ fs : List (Str × V), (putF f v fs).length ≤ fs.length + 1
  | [] => by simp [putF]
  | (k, x) :: r => by
    have ih := length_putF f v r
    rw [show putF f v ((k, x) :: r) = (if k = f then (k, v) :: r else (k, x) :: putF f v r) from rfl]
    by_cases hk : k = f
    · rw [if_pos hk, List.length_cons, List.length_cons]; omega
    · rw [if_neg hk, List.length_cons, List.length_cons]; omega
theorem RelO.some_of {v : V} {o : Option Value} (r : RelO (some v) o) : ∃ u, o = some u ∧ RelV v u := by
  cases o with
  | none => exact (show False from r).elim
  | some u => exact ⟨u, rfl, r⟩
theorem handed_of {v : V} {u : Value} (r : RelV v u) : PySem.W.handedIn u = true := by
  cases v with
  | non => cases (show u = Value.none from r); rfl
  | bl b => cases (show u = Value.bool b from r); rfl
  | int i => obtain ⟨t, e⟩ := (show ∃ t, u = Value.int i t from r); cases e; rfl
  | str x => obtain ⟨t, e⟩ := (show ∃ t, u = Value.str x t from r); cases e; rfl
  | byt b => obtain ⟨t, e⟩ := (show ∃ t, u = Value.bytes b t from r); cases e; rfl
  | flt b => obtain ⟨t, e⟩ := (show ∃ t, u = Value.float b t from r); cases e; rfl
  | ref a => cases (show u = Value.ref a from r); rfl
  | ty n => cases (show u = Value.type n from r); rfl
section
variable {P : Program} {w : World} {H H' : Hp} {h h' : Heap} {a C dx : Addr} {fs fs' : List (Str × V)}
theorem ins_get (hok : HOk P w H h) (e : H a = some (.ins C dx fs)) : ∃ mA, ObjM h a dx C mA ∧ (∀ f, RelO (fs.lookup f) (mA f)) ∧ PySem.Within mA (fs.map (·.1)) ∧ fs.length ≤ 1000 ∧ H dx = some (.own a) := by
  obtain ⟨d, z, ne, ob, mA, n, r, q⟩ := (show ObjOk P w H h a (.ins C dx fs) from hok a _ e)
  exact ⟨mA, ⟨ob, n, ne⟩, r, q, z, d⟩
end
structure Cls (K : PySem.W.Frag) (C : Addr) : Prop where
  pg : PySem.W.plainGet K C Str.empty = true
  hd : PySem.W.hasDictIn K C = true
  po : PySem.W.plainOver K C = true
  sa : PySem.W.findIn K (.ref C) "__setattr__" = some (some (.builtin "object.__setattr__"))
theorem Cls.get {K : PySem.W.Frag} {C : Addr} (c : Cls K C) (f : Str) : PySem.W.plainGet K C f = true := c.pg
noncomputable def NoAttr (K : PySem.W.Frag) (C : Addr) (f : Str) : Prop := PySem.W.findIn K (.ref C) f = some none
theorem NoAttr.taker {K : PySem.W.Frag} {C : Addr} {f : Str} (n : NoAttr K C f) : PySem.W.takerIn K C f = some none := by
  unfold PySem.W.takerIn
  rw [show PySem.W.findIn K (.ref C) f = some none from n]
  rfl
section
variable {X : Cx} {pins : List (Addr × Obj)} {σ : St} {H : Hp} {s : Shared} {a C dx : Addr} {fs : List (Str × V)} {f : Str} {v : V} {A : Around} {E : Value → Shared → Prop}
theorem getattr_ok {b : Bool} {Q : Value → Shared → Prop} (I : Inv X pins σ H s) (e : H a = some (.ins C dx fs)) (c : Cls X.K C) (n : NoAttr X.K C f) (l : fs.lookup f = some v)
    (h : ∀ u s', Inv X pins σ H s' → RelV v u → Q u s') : wpAny (model X.prog X.w) A (getAttr (.ref a) f b) Q E s := by
  obtain ⟨mA, O, r, _, _, _⟩ := ins_get I.hok e
  obtain ⟨u, hu, ru⟩ := RelO.some_of (v := v) (o := mA f) (by rw [← l]; exact r f)
  exact get_map I.kIn O (c.get f) c.hd n hu (handed_of ru) (h u _ (I.tok _) ru)
theorem setattr_ok {y : V} {u : Value} {Q : Unit → Shared → Prop} (I : Inv X pins σ H s) (e : H a = some (.ins C dx fs)) (c : Cls X.K C) (n : NoAttr X.K C f) (hl : fs.length < 1000) (ry : RelV y u)
    (h : ∀ s', Inv X pins σ (upd H a (.ins C dx (putF f y fs))) s' → Q () s') : wpAny (model X.prog X.w) A (setAttr (.ref a) f u) Q E s := by
  obtain ⟨mA, O, r, wi, _, ho⟩ := ins_get I.hok e
  have hz : (fs.map (·.1)).length ≤ sizeLine := by rw [List.length_map, sizeLine_eq]; omega
  refine set_map I.kIn O c.sa c.po n.taker c.hd wi hz fun h' O' sb => h _ ?_
  have hd : ∃ o, h'.get? dx = some o := let ⟨o, _, _, e', _⟩ := O'.ns; ⟨o, e'⟩
  refine I.write (x := a) (e := dx) (by rw [e]; exact True.intro) (.inr ho) (fun b q hb z => (sb.2 b hb).trans z) hd ?_
  refine ⟨by rw [upd_ne O.ne]; exact ho, ?_, O.ne, O'.obj, _, O'.ns, fun g => ?_, fun g hg => ?_⟩
  · have := length_putF f y fs; omega
  · show RelO ((putF f y fs).lookup g) (if g = f then some u else mA g)
    rw [lookup_putF]
    by_cases q : g = f
    · rw [if_pos q, if_pos q]; exact ry
    · rw [if_neg q, if_neg q]; exact r g
  · by_cases q : g = f
    · rw [q]; exact (keys_putF f y fs).1
    · refine (keys_putF f y fs).2 g (wi g fun z => hg ?_)
      show (if g = f then some u else mA g) = none
      rw [if_neg q]; exact z
theorem Inv.made (I : Inv X pins σ H s) : Inv X pins σ (upd (upd H s.heap.objs.size (.own (s.heap.objs.size + 1))) (s.heap.objs.size + 1) (.ins C s.heap.objs.size []))
    { s with heap := (s.heap.push PySem.W.emptyDict).push (PySem.W.instObj C s.heap.objs.size) } := by
  have e1 : (s.heap.push PySem.W.emptyDict).get? s.heap.objs.size = some PySem.W.emptyDict := Heap.get?_push_size s.heap rfl
  have e2 : ((s.heap.push PySem.W.emptyDict).push (PySem.W.instObj C s.heap.objs.size)).get? (s.heap.objs.size + 1) = some (PySem.W.instObj C s.heap.objs.size) := by
    have := Heap.get?_push_size (s.heap.push PySem.W.emptyDict) (o := PySem.W.instObj C s.heap.objs.size) rfl
    rwa [Heap.size_push] at this
  have e3 : (s.heap.push PySem.W.emptyDict).Ns s.heap.objs.size (fun _ => none) := ⟨PySem.W.emptyDict, #[], _, e1, rfl, (fun e he => absurd he (by simp)), fun _ => rfl⟩
  have I1 := I.laid (a := s.heap.objs.size) (o := .own (s.heap.objs.size + 1)) (h' := s.heap.push PySem.W.emptyDict) (t' := s.toks) (fun b u q => Heap.get?_push_of_some _ q) (Nat.le_refl _) ⟨_, e1⟩
  refine I1.laid (a := s.heap.objs.size + 1) (o := .ins C s.heap.objs.size []) (t' := s.toks) (fun b u q => Heap.get?_push_of_some _ q) (Nat.le_of_eq (Heap.size_push _ _)) ?_
  have ne : s.heap.objs.size ≠ s.heap.objs.size + 1 := Nat.ne_of_lt (Nat.lt_succ_self _)
  refine ⟨by rw [upd_ne ne, upd_same], Nat.zero_le _, ne, e2, fun _ => none, (Heap.Ns1.of_empty e3).at fun o q => Heap.get?_push_of_some _ q, fun _ => True.intro, fun y hy => absurd rfl hy⟩
theorem attr_of {prog : Program} {w : World} {env : Env} {e : Expr} {f : Str} {pos : Pos} {s : Shared} {Q : Value → Shared → Prop} (hb : attributeBase e f env (eval e env) = eval e env)
    (h : wpAny (model prog w) A (eval e env) (fun o s₁ => wpAny (model prog w) A (getAttr o f true) Q E s₁) E s) : wpAny (model prog w) A (eval (.Attribute e f pos) env) Q E s :=
  Attribute_any_ h (by rw [arm_eval_Attribute, hb])
end
noncomputable def tFld (K : PySem.W.Frag) (ta : TE) (f : Str) : TE := fun σ H Q => ta σ H fun x H1 => ∃ a C dx fs v, x = .ref a ∧ H1 a = some (.ins C dx fs) ∧ Cls K C ∧ NoAttr K C f ∧ fs.lookup f = some v ∧ Q v H1
noncomputable def sFld (K : PySem.W.Frag) (ta tv : TE) (f : Str) : TS := fun D σ H => tv σ H fun y H1 => ta σ H1 fun x H2 => ∃ a C dx fs, x = .ref a ∧ H2 a = some (.ins C dx fs) ∧ Cls K C ∧ NoAttr K C f ∧ fs.length < 1000 ∧
  D.nx σ (upd H2 a (.ins C dx (putF f y fs)))
section
variable {X : Cx} {o e value : Expr} {f : Str} {pos pos' tpos : Pos} {ta tv : TE}
theorem pe_fld (he : PE X e ta) (hb : attributeBase e f X.env (eval e X.env) = eval e X.env) : PE X (.Attribute e f pos) (tFld X.K ta f) := by
  intro pins s σ H Q I h
  refine attr_of hb (thn (he pins s σ H _ I h) fun u s1 ⟨x, H1, I1, rx, a, C, dx, fs, v, ex, ea, c, n, l, q⟩ => ?_)
  subst ex
  obtain rfl : u = Value.ref a := rx
  exact getattr_ok I1 ea c n l fun u' s2 I2 ru => ⟨v, H1, I2, ru, q⟩
theorem ps_fld (ha : PE X o ta) (hv : PE X value tv) (hs : swapsWith value (some (.Attribute o f pos')) pos.line X.env = pure false) : PS X (.Assign [.Attribute o f pos'] value pos) (sFld X.K ta tv f) := by
  intro pins s σ H D I h
  refine plainObj_wpAny_Assign_Attribute (thn (hv pins s σ H _ I h) fun u s1 ⟨y, H1, I1, ry, q⟩ => thn (ha pins s1 σ H1 _ I1 q) fun ov s2 ⟨x, H2, I2, rx, a, C, dx, fs, ex, ea, c, n, l, q2⟩ => ?_) hs
  subst ex
  obtain rfl : ov = Value.ref a := rx
  exact setattr_ok I2 ea c n l ry fun s3 I3 => ⟨σ, _, I3, q2⟩
end
section
variable {X : Cx} {pins : List (Addr × Obj)} {σ : St} {H : Hp} {s : Shared} {A : Around} {E : Value → Shared → Prop} {Q : Value → Shared → Prop} {c : Value} {b : Bool}
inductive TyOf (K : PySem.W.Frag) (H : Hp) : V → Value → Prop where
  | non : TyOf K H .non (.type "NoneType")
  | bl (x : Bool) : TyOf K H (.bl x) (.type "bool")
  | int (i : Int) : TyOf K H (.int i) (.type "int")
  | str (x : Str) : TyOf K H (.str x) (.type "str")
  | flt (x : UInt64) : TyOf K H (.flt x) (.type "float")
  | lst {a : Addr} {xs : List V} (e : H a = some (.lst xs)) : TyOf K H (.ref a) (.type "list")
  | frz {a : Addr} {o : Obj} {xs : List V} (e : H a = some (.frz o (.lst xs))) : TyOf K H (.ref a) (.type "list")
  | tup {a : Addr} {xs : List V} (e : H a = some (.tup xs)) : TyOf K H (.ref a) (.type "tuple")
  | dK {a : Addr} {kvs : List (Key × V)} (e : H a = some (.dK kvs)) : TyOf K H (.ref a) (.type "dict")
  | dT {a : Addr} {kvs : List (List Key × V)} (e : H a = some (.dT kvs)) : TyOf K H (.ref a) (.type "dict")
  | ins {a C dx : Addr} {fs : List (Str × V)} (e : H a = some (.ins C dx fs)) (cl : Cls K C) (ha : PySem.W.findIn K (.ref C) "__class__" = some (some (.builtin "object.__class__")))
      (hn : PySem.W.specialIn K (.builtin "object.__class__") "__get__" = some (some (.builtin "getset_descriptor.__get__"))) (htk : PySem.W.takesIn K (.builtin "object.__class__") = some true)
      (hm : PySem.W.mroIn K C (.type "object") = some true) : TyOf K H (.ref a) (.ref C)
theorem isinst_ok {x : V} {u t : Value} (I : Inv X pins σ H s) (rx : RelV x u) (ty : TyOf X.K H x t) (e : PySem.W.kitOne X.K t c = some b) (h : ∀ tk, Q (.bool b) { s with toks := tk }) :
    wpAny (model X.prog X.w) A (call (.builtin "isinstance") [u, c]) Q E s := by
  cases ty with
  | non => cases (show u = Value.none from rx); exact PySem.W.kia_one PySem.W.kitx_none I.kIn True.intro e (fun z => nomatch z) h
  | bl y => cases (show u = Value.bool y from rx); exact PySem.W.kia_one PySem.W.kitx_bool I.kIn True.intro e (fun z => nomatch z) h
  | int i => obtain ⟨t, q⟩ := (show ∃ t, u = Value.int i t from rx); cases q; exact PySem.W.kia_one PySem.W.kitx_int I.kIn True.intro e (fun z => nomatch z) h
  | str y => obtain ⟨t, q⟩ := (show ∃ t, u = Value.str y t from rx); cases q; exact PySem.W.kia_one PySem.W.kitx_str I.kIn True.intro e (fun z => nomatch z) h
  | flt y => obtain ⟨t, q⟩ := (show ∃ t, u = Value.float y t from rx); cases q; exact PySem.W.kia_one PySem.W.kitx_float I.kIn True.intro e (fun z => nomatch z) h
  | @lst a xs ea =>
    cases (show u = Value.ref a from rx)
    obtain ⟨_, _, n, _, h1⟩ := (show ObjOk X.prog X.w H s.heap a (.lst xs) from I.hok a _ ea)
    exact PySem.W.kia_one PySem.W.kitx_list I.kIn ⟨_, h1, rfl⟩ e (fun z => nomatch z) h
  | @frz a ob xs ea =>
    cases (show u = Value.ref a from rx)
    obtain ⟨_, _, _, n, _, h1⟩ := (show ObjOk X.prog X.w H s.heap a (.frz ob (.lst xs)) from I.hok a _ ea)
    exact PySem.W.kia_one PySem.W.kitx_list I.kIn ⟨_, h1, rfl⟩ e (fun z => nomatch z) h
  | @tup a xs ea =>
    cases (show u = Value.ref a from rx)
    obtain ⟨_, _, _, p⟩ := (show ObjOk X.prog X.w H s.heap a (.tup xs) from I.hok a _ ea)
    obtain ⟨o, h1, h2, _⟩ := p
    exact PySem.W.kia_one PySem.W.kitx_tuple I.kIn ⟨o, h1, h2⟩ e (fun z => nomatch z) h
  | @dK a kvs ea =>
    cases (show u = Value.ref a from rx)
    obtain ⟨_, _, vs, _, p⟩ := (show ObjOk X.prog X.w H s.heap a (.dK kvs) from I.hok a _ ea)
    obtain ⟨o, es, ep, h1, h2, _⟩ := p
    exact PySem.W.kia_one PySem.W.kitx_dict I.kIn ⟨o, h1, h2.1⟩ e (fun z => nomatch z) h
  | @dT a kvs ea =>
    cases (show u = Value.ref a from rx)
    obtain ⟨_, _, xs, _, o, es, ep, h1, h2, _⟩ := (show ObjOk X.prog X.w H s.heap a (.dT kvs) from I.hok a _ ea)
    exact PySem.W.kia_one PySem.W.kitx_dict I.kIn ⟨o, h1, h2.1⟩ e (fun z => nomatch z) h
  | @ins a C dx fs ea cl ha hn htk hm =>
    cases (show u = Value.ref a from rx)
    obtain ⟨mA, O, _⟩ := ins_get I.hok ea
    obtain ⟨od, J, _⟩ := O.look
    exact PySem.W.kia_one (PySem.W.kitx_own (cl.get _) cl.hd ha hn htk hm) I.kIn J e (fun z => nomatch z) h
end
end L2
namespace L2
open PySem PySem.Spec PyProof.Rows
structure Room (k : Nat) (A : Around) : Prop where
  hd : A.handled = none
  dp : A.depth + 3 * k + 5 < recursionLimit
  un : A.units + 16 * k + 200 < cLine
theorem Room.mono {j k : Nat} {A : Around} (r : Room k A) (h : j ≤ k) : Room j A := ⟨r.hd, by have := r.dp; omega, by have := r.un; omega⟩
theorem Room.deeper {k : Nat} {A : Around} (r : Room (k + 1) A) (env : Env) : Room k (A.deeper env) :=
  ⟨r.hd, by have := r.dp; show A.depth + 1 + 3 * k + 5 < _; omega, by have := r.un; show A.units + 3 + 16 * k + 200 < _; omega⟩
theorem make_depth {A : Around} {C : Addr} {us : List Value} {kw : List (Str × Value)} : (A.under (.builtin "type.__call__" ⟨.ref C :: us, kw⟩)).depth = A.depth + 1 := by
  first | rfl | simp [Around.under, Code.weight, Code.isCreation, Code.isGuard, Code.isCaller, Code.frames, Code.isFrame, guardIds]
theorem make_units {A : Around} {C : Addr} {us : List Value} {kw : List (Str × Value)} : (A.under (.builtin "type.__call__" ⟨.ref C :: us, kw⟩)).units = A.units + 1 := by
  first | rfl | simp [Around.under, Code.cUnits, Code.frames, Code.isFrame]
theorem Room.make {k : Nat} {A : Around} (r : Room (k + 1) A) (C : Addr) (us : List Value) (kw : List (Str × Value)) : Room k (A.under (.builtin "type.__call__" ⟨.ref C :: us, kw⟩)) :=
  ⟨r.hd, by have := r.dp; rw [make_depth]; omega, by have := r.un; rw [make_units]; omega⟩
theorem Room.depth {k : Nat} {A : Around} (r : Room k A) : A.depth < recursionLimit := by have := r.dp; omega
theorem Room.units {k : Nat} {A : Around} (r : Room k A) : A.units + 64 < cLine := by have := r.un; omega
noncomputable def tNil : TA := fun _ H Q => Q [] H
noncomputable def tCons (ta : TE) (tr : TA) : TA := fun σ H Q => ta σ H fun x H1 => tr σ H1 fun xs H2 => Q (x :: xs) H2
section
variable {X : Cx} {e : Expr} {es : List Expr} {te : TE} {t : TA} {pos : Pos}
theorem pa_nil : PA X [] tNil := fun _ _ _ _ H Q I h => Calls.spliced_nil ⟨[], H, I, .nil, h⟩
theorem pa_cons (ha : PE X e te) (hr : PA X es t) (hs : starEach (e :: es) X.env = (false, eval e X.env) :: starEach es X.env := by rfl) : PA X (e :: es) (tCons te t) := by
  intro pos pins s σ H Q I h
  rw [hs]
  show wpAny _ _ (spliced ((false, eval e X.env) :: backTo pos (starEach es X.env))) _ _ s
  refine Calls.spliced_cons (thn (ha pins s σ H _ I h) fun u s1 ⟨x, H1, I1, r1, q1⟩ => ?_)
  exact thn (hr pos pins s1 σ H1 _ I1 q1) fun us s2 ⟨xs, H2, I2, r2, q2⟩ => ⟨x :: xs, H2, I2, .cons r1 r2, q2⟩
noncomputable def tTup (t : TA) : TE := fun σ H Q => t σ H fun xs H1 => xs.length ≤ sizeLine ∧ ∀ p, H1 p = none → Q (.ref p) (upd H1 p (.tup xs))
noncomputable def tLst (t : TA) : TE := fun σ H Q => t σ H fun xs H1 => xs.length ≤ sizeLine ∧ ∀ p, H1 p = none → Q (.ref p) (upd H1 p (.lst xs))
theorem pe_tup {x1} (h : PA X es t) : PE X (.Tuple es x1 pos) (tTup t) := by
  intro pins s σ H Q I hq
  refine wpAny_Tuple_spliced (thn (h pos pins s σ H _ I hq) fun us s1 ⟨xs, H1, I1, r, z, q⟩ => ⟨by rw [← r.length]; exact z, ?_⟩)
  have hf : H1 s1.heap.objs.size = none := I1.hok.fresh (Nat.le_refl _)
  refine ⟨.ref s1.heap.objs.size, upd H1 s1.heap.objs.size (.tup xs), I1.laid (t' := s1.toks) (fun b u e => Heap.get?_push_of_some _ e) (Nat.le_refl _) ?_, rfl, q _ hf⟩
  exact ⟨z, us, r, ⟨_, Heap.get?_push_size _ rfl, rfl, _, rfl⟩⟩
theorem pe_lst (h : PA X es t) : PE X (.List es pos) (tLst t) := by
  intro pins s σ H Q I hq
  refine wpAny_List_spliced (thn (h pos pins s σ H _ I hq) fun us s1 ⟨xs, H1, I1, r, z, q⟩ => ⟨by rw [← r.length]; exact z, ?_⟩)
  have hf : H1 s1.heap.objs.size = none := I1.hok.fresh (Nat.le_refl _)
  refine ⟨.ref s1.heap.objs.size, upd H1 s1.heap.objs.size (.lst xs), I1.laid (t' := s1.toks) (fun b u e => Heap.get?_push_of_some _ e) (Nat.le_refl _) ?_, rfl, q _ hf⟩
  exact ⟨z, us, 0, r, Heap.get?_push_size _ rfl⟩
end
noncomputable abbrev Sp := List V → Hp → VK → XK → Prop
noncomputable abbrev CXT := List Env → Hp → Shared → XK → Value → Shared → Prop
structure Env0 (P : Program) (w : World) (K : PySem.W.Frag) (mg : Str → Option Value) (base : Heap) (A : Around) (outer : List Env) (s : Shared) (H : Hp) : Prop where
  frames : A.frames = some outer
  mod : Mod K mg base
  bs : ∀ b o, base.get? b = some o → s.heap.get? b = some o ∧ H b = none
  bsz : base.objs.size ≤ s.heap.objs.size
  funs : s.heap.FunFrames base outer
  frf : ∀ b ∈ frs outer, H b = none
  hok : HOk P w H s.heap
  bare : AllBare s.gens
noncomputable def CE (outer : List Env) (P : Program) (w : World) (H : Hp) (s : Shared) (Q : VK) (u : Value) (s' : Shared) : Prop :=
  ∃ v H', s'.os = s.os ∧ AllBare s'.gens ∧ Un (frs outer) [] H H' s.heap s'.heap ∧ HOk P w H' s'.heap ∧ RelV v u ∧ Q v H'
noncomputable def CR (CX : CXT) (outer : List Env) (P : Program) (w : World) (H : Hp) (s : Shared) (Q : VK) (E : XK) (r : Result) (s' : Shared) : Prop :=
  match r with
  | .ok (.ret u) => CE outer P w H s Q u s'
  | .ok _ => False
  | .error e => CX outer H s E e s'
structure FnOk (P : Program) (w : World) (K : PySem.W.Frag) (mg : Str → Option Value) (base : Heap) (CX : CXT) (k : Nat) (f : Addr) (fd : FuncData) (ps : List Str) (sp : Sp) : Prop where
  len : ∀ vs H Q E, sp vs H Q E → vs.length = ps.length
  run : ∀ (A : Around) (outer : List Env) (s : Shared) (H : Hp) (args : Args) (us : List Value) (vs : List V) (Q : VK) (E : XK), Room k A → Env0 P w K mg base A outer s H → BindsTo s fd args (ps.zip us) → Vals vs us → sp vs H Q E →
    codeAny (model P w) A (.call (.ref f) args) (CR CX outer P w H s Q E) s
theorem FnOk.mono {P : Program} {w : World} {K : PySem.W.Frag} {mg : Str → Option Value} {base : Heap} {CX : CXT} {j k : Nat} {f : Addr} {fd : FuncData} {ps : List Str} {sp : Sp} (F : FnOk P w K mg base CX j f fd ps sp) (h : j ≤ k) :
    FnOk P w K mg base CX k f fd ps sp := ⟨F.len, fun A outer s H args us vs Q E hr => F.run A outer s H args us vs Q E (hr.mono h)⟩
theorem Env0.make {P : Program} {w : World} {K : PySem.W.Frag} {mg : Str → Option Value} {base : Heap} {A : Around} {outer : List Env} {s : Shared} {H : Hp} (e : Env0 P w K mg base A outer s H) (C : Addr) (us : List Value) (kw : List (Str × Value)) :
    Env0 P w K mg base (A.under (.builtin "type.__call__" ⟨.ref C :: us, kw⟩)) outer s H := ⟨by first | exact e.frames | (simpa [Around.under, Code.envs, Code.isFrame, pushEnvs] using e.frames), e.mod, e.bs, e.bsz, e.funs, e.frf, e.hok, e.bare⟩
section
variable {X : Cx} {pins : List (Addr × Obj)} {σ : St} {H : Hp} {s s' : Shared}
theorem Inv.env0 (I : Inv X pins σ H s) : Env0 X.prog X.w X.K X.mg X.base X.A X.stack s H :=
  ⟨I.ok.frames, I.ok.mod, I.bs, Nat.le_trans I.ok.bsz I.sz, I.stack, I.stkFree, I.hok, I.bare⟩
theorem Inv.after {Q : VK} {u : Value} (I : Inv X pins σ H s) (h : CE X.stack X.prog X.w H s Q u s') : EP X pins σ Q u s' := by
  obtain ⟨v, H', os, bare, un, hok, r, q⟩ := h
  obtain ⟨hh, g, d, t, os'⟩ := s'
  obtain rfl : os' = s.os := os
  exact ⟨v, H', I.call (h' := hh) (g' := g) (d' := d) (t' := t) (ch := []) un hok bare (fun b z => absurd z (by simp)), r, q⟩
end
noncomputable def tCall (sp : Sp) (dvs : List V) (E : XK) (t : TA) : TE := fun σ H Q => t σ H fun vs H1 => sp (vs ++ dvs) H1 Q E
noncomputable def Binds (K : PySem.W.Frag) (fd : FuncData) (ps : List Str) (ds : List Value) : Prop :=
  ∀ (s : Shared) (us : List Value), K.In s.heap → (us ++ ds).length = ps.length → BindsTo s fd ⟨us, []⟩ (ps.zip (us ++ ds))
theorem Binds.all {K : PySem.W.Frag} {fd : FuncData} {ps : List Str} (h : ∀ us : List Value, us.length = ps.length → bindArgs fd ⟨us, []⟩ = pure (ps.zip us)) : Binds K fd ps [] := fun s us _ hl => by
  rw [List.append_nil] at hl ⊢
  exact .of_eq (h us hl)
noncomputable def Passes (CX : CXT) (X : Cx) (E : XK) : Prop := ∀ (pins : List (Addr × Obj)) (σ : St) (H : Hp) (s : Shared) (e : Value) (s' : Shared), Inv X pins σ H s → CX X.stack H s E e s' → X.xe e s'
section
variable {X : Cx} {CX : CXT} {k : Nat} {f C : Addr} {fd : FuncData} {ps : List Str} {sp : Sp} {dvs : List V} {ds : List Value} {E : XK} {x m : Str} {p pos apos : Pos} {e o : Expr} {es : List Expr} {ta : TE} {t : TA}
theorem run_fn {pins : List (Addr × Obj)} {σ : St} {H : Hp} {s : Shared} {Q : VK} {us : List Value} {vs : List V} (F : FnOk X.prog X.w X.K X.mg X.base CX k f fd ps sp) (hr : Room k X.A) (hb : Binds X.K fd ps ds) (hd : Vals dvs ds) (hx : Passes CX X E)
    (I : Inv X pins σ H s) (r : Vals vs us) (h : sp (vs ++ dvs) H Q E) : wpAny (model X.prog X.w) X.A (call (.ref f) us) (EP X pins σ Q) X.xe s := by
  have r2 : Vals (vs ++ dvs) (us ++ ds) := r.append hd
  have hl : (us ++ ds).length = ps.length := by rw [← r2.length]; exact F.len _ _ _ _ h
  refine wpAny_call (codeAny_mono (F.run X.A X.stack s H ⟨us, []⟩ (us ++ ds) (vs ++ dvs) Q E hr I.env0 (hb s us I.kIn hl) r2 h) fun r s' hq => ?_)
  cases r with
  | error e => exact hx pins σ H s e s' I hq
  | ok fl =>
    cases fl with
    | ret u => exact I.after hq
    | next => exact False.elim hq
    | brk => exact False.elim hq
    | cont => exact False.elim hq
theorem pe_call (F : FnOk X.prog X.w X.K X.mg X.base CX k f fd ps sp) (hr : Room k X.A) (hg : Gl X x) (hm : X.mg x = some (.ref f)) (hk : PySem.W.keepIn X.K (.ref f) = true) (hb : Binds X.K fd ps ds) (hd : Vals dvs ds) (hx : Passes CX X E)
    (ha : PA X (e :: es) t) (hdb : (x == ("__debug__" : Str)) = false := by decide) (he : starEach (e :: es) X.env = (false, eval e X.env) :: starEach es X.env := by rfl) (hpl : (backTo pos (starEach es X.env)).any (·.1) = false := by rfl) :
    PE X (.Call (.Name x p) (e :: es) [] pos) (tCall sp dvs E t) := by
  intro pins s σ H Q I h
  refine wpAny_Call_Name_kw (ld_glob I hg hm ?_ hdb)
  refine PySem.W.callWith_K (h₀ := X.base) I.ok.mod.kin hk (thn (ha pos pins s σ H _ I h) fun us s1 ⟨vs, H1, I1, r, q⟩ => ⟨I1.kIn, ?_⟩) he hpl
  exact run_fn F hr hb hd hx I1 r q
structure Mk (K : PySem.W.Frag) (C f : Addr) : Prop where
  makes : PySem.W.makesIn K C = true
  init : PySem.W.findIn K (.ref C) "__init__" = some (some (.ref f))
  fn : PySem.W.isFn K (.ref f) = true
  kp : PySem.W.keepIn K (.ref C) = true
end
section
variable {X : Cx} {CX : CXT} {k : Nat} {f C : Addr} {fd : FuncData} {ps ks : List Str} {sp : Sp} {E : XK} {x m : Str} {p pos apos kpos : Pos} {e o : Expr} {es : List Expr} {kws : List Keyword} {te ta : TE} {t tk : TA} {nm : Option Str}
variable {g : List Value → List Value → List Value} {gV : List V → List V → List V}
end
structure FnScope (N P : List Str) (sc : Scope) : Prop where
  kind : sc.kind = .function
  co : sc.isCoroutine = false
  gen : sc.isGenerator = false
  nd : N.Nodup
  pre : N.take P.length = P
  par : ∀ x ∈ P, sc.names.lookup x = some .local ∨ sc.names.lookup x = some .cell
  nofree : ∀ y ∈ sc.names, y.2 ≠ .free
theorem bindL_out {kindOf : Str → Option NameKind} {x : Str} : ∀ {binds : List (Str × Value)} {m : Str → Option Value}, (∀ v, (x, v) ∉ binds) → bindL kindOf binds m x = m x
  | [], _, _ => rfl
  | (n, v) :: r, m, h => by
    unfold bindL
    rw [bindL_out fun w hw => h w (List.mem_cons_of_mem _ hw)]
    split
    · have : x ≠ n := by rintro rfl; exact h v List.mem_cons_self
      simp [this]
    · rfl
theorem bindC_out {kindOf : Str → Option NameKind} {x : Str} : ∀ {binds : List (Str × Value)} {m : Str → Option Value}, (∀ v, (x, v) ∉ binds) → bindC kindOf binds m x = m x
  | [], _, _ => rfl
  | (n, v) :: r, m, h => by
    unfold bindC
    rw [bindC_out fun w hw => h w (List.mem_cons_of_mem _ hw)]
    split
    · rfl
    · have : x ≠ n := by rintro rfl; exact h v List.mem_cons_self
      simp [this]
theorem bindL_get {kindOf : Str → Option NameKind} {x : Str} {v : Value} : ∀ {P : List Str} {vs : List Value} {i : Nat} {m : Str → Option Value}, P.Nodup → P[i]? = some x → vs[i]? = some v → kindOf x = some .local →
    bindL kindOf (P.zip vs) m x = some v
  | [], _, _, _, _, h, _, _ => by simp at h
  | _ :: _, [], _, _, _, _, h, _ => by simp at h
  | p :: P, w :: vs, 0, m, nd, h1, h2, hk => by
    simp at h1 h2; subst h1; subst h2
    show bindL kindOf ((p, w) :: P.zip vs) m p = _
    unfold bindL
    rw [bindL_out fun v hv => (List.nodup_cons.mp nd).1 (List.of_mem_zip hv).1, if_pos hk]
    simp
  | p :: P, w :: vs, i + 1, m, nd, h1, h2, hk => by
    show bindL kindOf ((p, w) :: P.zip vs) m x = _
    unfold bindL
    exact bindL_get (i := i) (List.nodup_cons.mp nd).2 (by simpa using h1) (by simpa using h2) hk
theorem bindC_get {kindOf : Str → Option NameKind} {x : Str} {v : Value} : ∀ {P : List Str} {vs : List Value} {i : Nat} {m : Str → Option Value}, P.Nodup → P[i]? = some x → vs[i]? = some v → kindOf x ≠ some .local →
    bindC kindOf (P.zip vs) m x = some v
  | [], _, _, _, _, h, _, _ => by simp at h
  | _ :: _, [], _, _, _, _, h, _ => by simp at h
  | p :: P, w :: vs, 0, m, nd, h1, h2, hk => by
    simp at h1 h2; subst h1; subst h2
    show bindC kindOf ((p, w) :: P.zip vs) m p = _
    unfold bindC
    rw [bindC_out fun v hv => (List.nodup_cons.mp nd).1 (List.of_mem_zip hv).1, if_neg hk]
    simp
  | p :: P, w :: vs, i + 1, m, nd, h1, h2, hk => by
    show bindC kindOf ((p, w) :: P.zip vs) m x = _
    unfold bindC
    exact bindC_get (i := i) (List.nodup_cons.mp nd).2 (by simpa using h1) (by simpa using h2) hk
noncomputable def start (N : List Str) (vs : List V) : St := vs.map some ++ List.replicate (N.length - vs.length) none
noncomputable def cxOf (CX : CXT) (P : Program) (w : World) (K : PySem.W.Frag) (mg : Str → Option Value) (base : Heap) (N : List Str) (qual : Str) (scope : Scope) (f : Addr) (cd : Value) (A : Around) (outer : List Env) (s : Shared) (H : Hp) (E : XK) : Cx where
  prog := P
  w := w
  K := K
  mg := mg
  base := base
  A := A.deeper (envOfC qual scope s.heap.objs.size f cd)
  N := N
  s₀ := s
  H₀ := H
  env := envOfC qual scope s.heap.objs.size f cd
  outer := outer
  stack := envOfC qual scope s.heap.objs.size f cd :: outer
  ex := []
  calm := true
  fn := fun _ => true
  pn := []
  xe := fun e s' => wpAny (model P w) (A.deeper (envOfC qual scope s.heap.objs.size f cd)) (leaving (envOfC qual scope s.heap.objs.size f cd) e) (fun _ s'' => CX outer H s E e s'') (fun e' s'' => CX outer H s E e' s'') s'
theorem cell_has {sc : Scope} {n : Nat} {x : Str} (h : sc.names.lookup x = some .cell) : ∃ c, (cellsFrom n sc.names []).lookup x = some c := by
  have q := PySem.W.cellsFrom_some sc.names n [] (.inl h)
  exact Option.isSome_iff_exists.mp q
theorem inv_start {CX : CXT} {P : Program} {w : World} {K : PySem.W.Frag} {mg : Str → Option Value} {base : Heap} {N ps : List Str} {qual : Str} {scope : Scope} {f : Addr} {cd : Value} {A : Around} {outer : List Env} {s s1 : Shared} {H : Hp} {E : XK} {us : List Value} {vs : List V}
    (S : FnScope N ps scope) (hd : A.handled = none) (e0 : Env0 P w K mg base A outer s H) (hl : vs.length = ps.length) (r : Vals vs us)
    (x : InCallC s s.heap.objs.size (bindL (envOfC qual scope s.heap.objs.size f cd).kindOf (ps.zip us) fun _ => none) (cellsFrom (s.heap.objs.size + 1) scope.names []) (bindC (envOfC qual scope s.heap.objs.size f cd).kindOf (ps.zip us) fun _ => none) s1) :
    Inv (cxOf CX P w K mg base N qual scope f cd A outer s H E) [] (start N vs) H s1 := by
  have hpl : ps.length ≤ N.length := by have := congrArg List.length S.pre; rw [List.length_take] at this; omega
  obtain ⟨h1, tk, rfl, hk⟩ := x.done
  have noA : ∀ b : Addr, b ∉ (cxOf CX P w K mg base N qual scope f cd A outer s H E).ex := fun b z => absurd (show b ∈ ([] : List Addr) from z) (by simp)
  refine ⟨⟨e0.mod, S.kind, rfl, rfl, Nat.le_refl _, fun y z c h1 h2 => ?_, fun y hy => ?_, fun y c _ h => ?_, fun _ => hd, Around.frames_deeper e0.frames, .inr ⟨rfl, rfl⟩, fun b z => absurd z (noA b), e0.bs, e0.bsz, fun b _ _ => noA b, fun b z => absurd z (noA b), e0.funs, e0.frf⟩,
    rfl, e0.bare, Un.kept hk, ⟨_, x.toInCall.ns, fun i y v h1 h2 h3 => ?_⟩, fun y c h => ⟨_, x.cell y c h⟩, e0.hok.fresh (Nat.le_refl _), fun y c h => ?_, fun p hp => absurd (show p ∈ ([] : List (Addr × Obj)) from hp) (by simp), e0.hok.kept hk, ?_⟩
  · exact name_of_addr x.apart (PySem.mem_of_lookup h1) (PySem.mem_of_lookup h2)
  · have hy : scope.names.lookup y = some .cell ∨ scope.names.lookup y = some .free := hy
    rcases hy with hy | hy
    · exact cell_has hy
    · exact absurd rfl (S.nofree _ (PySem.mem_of_lookup hy))
  · exact Nat.le_of_lt (x.above y c (PySem.mem_of_lookup h))
  · have hi : i < vs.length := by
      unfold start at h2
      by_cases hi : i < vs.length
      · exact hi
      · rw [List.getElem?_append_right (by simpa using hi)] at h2
        rw [List.getElem?_replicate] at h2
        split at h2 <;> cases h2
    have ha : vs[i]? = some v := by
      unfold start at h2
      rw [List.getElem?_append_left (by simpa using hi), List.getElem?_map] at h2
      cases e : vs[i]? with
      | none => rw [e] at h2; cases h2
      | some a => rw [e] at h2; cases h2; rfl
    obtain ⟨u, hu, rv⟩ := r.get ha
    have hp : ps[i]? = some y := by
      rw [← S.pre, List.getElem?_take_of_lt (by omega)]; exact h1
    have ndP : ps.Nodup := by rw [← S.pre]; exact S.nd.sublist (List.take_sublist _ _)
    refine ⟨u, rv, ?_⟩
    rcases S.par y (List.mem_of_getElem? hp) with k | k
    · exact .inl ⟨k, bindL_get ndP hp hu k⟩
    · obtain ⟨c, e⟩ := cell_has (n := s.heap.objs.size + 1) k
      refine .inr ⟨.inl k, c, e, ?_⟩
      have q := x.cell y c e
      rw [bindC_get ndP hp hu (by show scope.names.lookup y ≠ _; rw [k]; decide)] at q
      exact q
  · exact e0.hok.fresh (Nat.le_of_lt (x.above y c (PySem.mem_of_lookup h)))
  · unfold start
    show _ = N.length
    rw [List.length_append, List.length_map, List.length_replicate]
    omega
theorem fn_of {CX : CXT} {P : Program} {w : World} {K : PySem.W.Frag} {mg : Str → Option Value} {base : Heap} {k : Nat} {f : Addr} {name qual : Str} {params : Arguments} {body : List Stmt} {scope : Scope} {dV kV doc pm cdv ct oc : Value} {an od : Option Addr}
    {osl : Array (Option Value)} {N ps : List Str} {sp : Sp} (lk : K.lookup f = some ⟨oc, od, .func (PySem.W.fnOf name qual params body scope dV kV doc pm an cdv ct), osl⟩) (hcd : PySem.W.codeIn K cdv qual = true) (S : FnScope N ps scope)
    (len : ∀ vs H Q E, sp vs H Q E → vs.length = ps.length)
    (hbody : ∀ (A : Around) (outer : List Env) (s : Shared) (H : Hp) (vs : List V) (Q : VK) (E : XK), Room k (A.deeper (envOfC qual scope s.heap.objs.size f cdv)) → sp vs H Q E →
      ∃ t, PSs (cxOf CX P w K mg base N qual scope f cdv A outer s H E) body t ∧ t { nx := fun _ H' => Q .non H', rt := Q } (start N vs) H) :
    FnOk P w K mg base CX (k + 1) f (PySem.W.fnOf name qual params body scope dV kV doc pm an cdv ct) ps sp := by
  refine ⟨len, fun A outer s H args us vs Q E hr e0 hb r hsp => ?_⟩
  have hl := len _ _ _ _ hsp
  have KX : K.In s.heap := e0.mod.kin.keeps fun b o e => (e0.bs b o e).1
  have lim : s.heap.NoLimit := e0.mod.nolimit.keeps fun b o e => (e0.bs b o e).1
  have hkind : ∀ y ∈ ps.zip us, scope.names.lookup y.1 = some .local ∨ (scope.names.lookup y.1 = some .cell ∧ ((cellsFrom (s.heap.objs.size + 1) scope.names []).lookup y.1).isSome = true) := fun ⟨n, v⟩ hy => by
    rcases S.par n (List.of_mem_zip hy).1 with q | q
    · exact .inl q
    · exact .inr ⟨q, PySem.W.cellsFrom_some _ _ _ (.inl q)⟩
  refine codeAny_call_function hr.depth (KX _ _ lk) rfl S.co S.gen rfl (PySem.W.codeRec_of KX hcd) (hb _ _ _ _ ?_)
  refine wpAny_newFunctionEnv_cells S.kind hkind fun env he s1 x => ?_
  subst he
  refine ⟨lim.keeps x.toInCall.keep, codeAny_func ?_⟩
  obtain ⟨t, ht, hq⟩ := hbody A outer s H vs Q E (hr.deeper _) hsp
  have I : Inv (cxOf CX P w K mg base N qual scope f cdv A outer s H E) [] (start N vs) H s1 := inv_start S hr.hd e0 hl r x
  refine wpAny_mono (ht [] s1 (start N vs) H _ I hq) (fun fl s' hs => ?_) fun e s' hs => hs
  have fin : ∀ {σ' : St} {H' : Hp} {v : V} {u : Value}, Inv (cxOf CX P w K mg base N qual scope f cdv A outer s H E) [] σ' H' s' → RelV v u → Q v H' → CE outer P w H s Q u s' :=
    fun {σ' H' v u} J rv q => ⟨v, H', J.os, J.bare, J.base, J.hok, rv, q⟩
  cases fl with
  | ret u =>
    obtain ⟨v, σ', H', J, rv, q⟩ := hs
    exact fin J rv q
  | next =>
    obtain ⟨σ', H', J, q⟩ := hs
    exact fin (v := V.non) (u := Value.none) J rfl q
  | brk =>
    obtain ⟨_, _, _, q⟩ := hs
    exact False.elim q
  | cont =>
    obtain ⟨_, _, _, q⟩ := hs
    exact False.elim q
end L2
namespace L2
open PySem PySem.Spec PyProof.Rows
section
variable {X : Cx} {x : Str} {p pos : Pos} {e : Expr} {es : List Expr} {t : TA} {id T : String} {r : List V → Hp → VK → Prop}
noncomputable def tCB (r : List V → Hp → VK → Prop) (t : TA) : TE := fun σ H Q => t σ H fun vs H1 => r vs H1 Q
theorem pe_callB (hc : CallR X (.builtin id) r) (hg : Gl X x) (hm : X.mg x = none) (hv : bootBuiltins x = some (.builtin id)) (ha : PA X (e :: es) t) (hn : x ≠ "__name__" := by decide) (hdb : (x == ("__debug__" : Str)) = false := by decide)
    (he : starEach (e :: es) X.env = (false, eval e X.env) :: starEach es X.env := by rfl) (hpl : (backTo pos (starEach es X.env)).any (·.1) = false := by rfl) : PE X (.Call (.Name x p) (e :: es) [] pos) (tCB r t) := by
  intro pins s σ H Q I h
  refine wpAny_Call_Name_kw (ld_blt I hg hm hv ?_ hn hdb)
  exact PyProof.Rows.callWith_builtin1 (thn (ha pos pins s σ H _ I h) fun us s1 ⟨vs, H1, I1, r1, q1⟩ => hc pins s1 σ H1 vs us Q I1 r1 q1) he hpl
theorem pe_callTy (hc : CallR X (.type T) r) (hg : Gl X x) (hm : X.mg x = none) (hv : bootBuiltins x = some (.type T)) (ha : PA X (e :: es) t) (hn : x ≠ "__name__" := by decide) (hdb : (x == ("__debug__" : Str)) = false := by decide)
    (he : starEach (e :: es) X.env = (false, eval e X.env) :: starEach es X.env := by rfl) (hpl : (backTo pos (starEach es X.env)).any (·.1) = false := by rfl) : PE X (.Call (.Name x p) (e :: es) [] pos) (tCB r t) := by
  intro pins s σ H Q I h
  refine wpAny_Call_Name_kw (ld_blt I hg hm hv ?_ hn hdb)
  exact PyProof.Rows.callWith_type1 (thn (ha pos pins s σ H _ I h) fun us s1 ⟨vs, H1, I1, r1, q1⟩ => hc pins s1 σ H1 vs us Q I1 r1 q1) he hpl
end
end L2
namespace HT
open PySem PyProof.Rows
section
open PySem.SeqAt
open PySem.AutoSeq1 (wpAny_loadPart')
open PySem.MeetsSeq PySem.MeetsSeq2 PySem.MeetsSeq3
end
section
variable {prog : Program} {w : World} {A : Around} {E : Value → Shared → Prop} {s : Shared}
noncomputable def sIx (n d : Nat) : Option Int → Nat
  | none => d
  | some v => if v < 0 then (v + (n : Int)).toNat else min v.toNat n
theorem sIx_le (n d : Nat) (hd : d ≤ n) (o : Option Int) : sIx n d o ≤ n := by
  cases o with
  | none => exact hd
  | some v =>
    show (if v < 0 then (v + (n : Int)).toNat else min v.toNat n) ≤ n
    by_cases hv : v < 0
    · rw [if_pos hv]; omega
    · rw [if_neg hv]; exact Nat.min_le_right _ _
theorem clip_eq (v : Int) (n d : Nat) : (if v < 0 then max (v + (n : Int)) 0 else min v (n : Int)) = ((sIx n d (some v) : Nat) : Int) := by
  show (if v < 0 then max (v + (n : Int)) 0 else min v (n : Int)) = (((if v < 0 then (v + (n : Int)).toNat else min v.toNat n) : Nat) : Int)
  by_cases hv : v < 0
  · simp only [if_pos hv]; omega
  · simp only [if_neg hv]; omega
theorem adjust_gen (lo hi : Option Int) (n : Nat) : Builtin.Slice.sliceAdjust lo hi 1 (n : Int) = (((sIx n 0 lo : Nat) : Int), ((sIx n n hi : Nat) : Int)) := by
  have h1 : ¬ ((1 : Int) < 0) := by omega
  unfold Builtin.Slice.sliceAdjust
  simp only [h1, if_false]
  refine Prod.ext ?_ ?_
  · cases lo with
    | none => rfl
    | some v => exact clip_eq v n 0
  · cases hi with
    | none => rfl
    | some v => exact clip_eq v n n
theorem places_gen (i j : Nat) : Builtin.Slice.slicePlaces (i : Int) (j : Int) 1 = j - i := by
  unfold Builtin.Slice.slicePlaces
  have h1 : (1 : Int) > 0 := by omega
  simp only [h1, if_true, Int.ediv_one]
  split <;> omega
theorem slicePart_ {v : Value} {o : Option Int} {Q : Option Int → Shared → Prop} (p : IsPart v o) (h : Q o s) : wpAny (model prog w) A (Builtin.Slice.slicePartIndex v) Q E s := by
  cases p with
  | none => exact slicePart_none h
  | int i t => exact slicePart_int h
theorem sliceApplied_gen {sl : Addr} {vl vu : Value} {lo hi : Option Int} {n : Nat} {Q : Int × Int × Nat → Shared → Prop} (hs : s.heap.IsSliceOf sl vl vu .none) (pl : IsPart vl lo) (pu : IsPart vu hi)
    (h : Q (((sIx n 0 lo : Nat) : Int), 1, sIx n n hi - sIx n 0 lo) s) : wpAny (model prog w) A (Builtin.Slice.sliceApplied (.ref sl) (pure (n : Int))) Q E s := by
  obtain ⟨os, hos, hcs, hds⟩ := id hs
  unfold Builtin.Slice.sliceApplied Builtin.Slice.sliceFields
  refine wpAny_bind (wpAny_bind (wpAny_field hos hds (x := vl) rfl (wpAny_bind (wpAny_field hos hds (x := vu) rfl (wpAny_bind (wpAny_field hos hds (x := .none) rfl (wpAny_pure ?_)))))))
  refine wpAny_bind (slicePart_none ?_)
  show wpAny _ _ (if ((1 : Int) == 0) = true then _ else _) _ _ s
  rw [if_neg (by decide)]
  refine wpAny_bind (slicePart_ pl (wpAny_bind (slicePart_ pu (wpAny_bind (wpAny_pure ?_)))))
  show wpAny _ _ (match Builtin.Slice.sliceAdjust lo hi 1 (n : Int) with | (lo, hi) => pure (lo, (1 : Int), Builtin.Slice.slicePlaces lo hi 1)) _ _ s
  rw [adjust_gen lo hi n]
  show wpAny _ _ (pure (((sIx n 0 lo : Nat) : Int), (1 : Int), Builtin.Slice.slicePlaces ((sIx n 0 lo : Nat) : Int) ((sIx n n hi : Nat) : Int) 1)) _ _ s
  rw [places_gen]
  exact wpAny_pure h
theorem pick_gen (xs : Array Value) (i k : Nat) : ((List.range k).filterMap fun (m : Nat) => xs[((i : Int) + (m : Int) * 1).toNat]?).toArray = ((xs.toList.drop i).take k).toArray := by
  have e : (fun (m : Nat) => xs[((i : Int) + (m : Int) * 1).toNat]?) = fun m => xs[i + m]? := by
    funext m
    have : ((i : Int) + (m : Int) * 1).toNat = i + m := by omega
    rw [this]
  rw [e]
  have := pick_run xs i k
  rw [List.filterMap_map] at this
  have e2 : ((fun x => xs[x]?) ∘ fun x => i + x) = fun m => xs[i + m]? := rfl
  rw [e2] at this
  rw [this]
theorem getItem_tuple_cut {t sl : Addr} {items : Array Value} {vl vu : Value} {lo hi : Option Int} {Q : Value → Shared → Prop} (ht : IsTup s.heap t items) (hs : s.heap.IsSliceOf sl vl vu .none) (pl : IsPart vl lo) (pu : IsPart vu hi)
    (hw : ¬ (sIx items.size 0 lo = 0 ∧ sIx items.size items.size hi = items.size))
    (h : Q (.ref s.heap.objs.size) { s with heap := s.heap.push { cls := .type "tuple", data := .seq ((items.toList.drop (sIx items.size 0 lo)).take (sIx items.size items.size hi - sIx items.size 0 lo)).toArray } })
    (hsz : items.size ≤ sizeLine) : wpAny (model prog w) A (getItem (.ref t) (.ref sl)) Q E s := by
  have htake : sizeOk (.seq ((items.toList.drop (sIx items.size 0 lo)).take (sIx items.size items.size hi - sIx items.size 0 lo)).toArray) := by
    show ((items.toList.drop (sIx items.size 0 lo)).take (sIx items.size items.size hi - sIx items.size 0 lo)).toArray.size ≤ sizeLine
    rw [List.size_toArray, List.length_take, List.length_drop, Array.length_toList]
    omega
  have hj : sIx items.size items.size hi ≤ items.size := sIx_le _ _ (Nat.le_refl _) hi
  obtain ⟨os, hos, hcs, hds⟩ := id hs
  have hTs : s.TypeIs (.ref sl) "slice" := ⟨os, hos, hcs⟩
  unfold getItem
  try with_reducible refine wpAny_holding ?_
  first | refine wpAny_bind (wpAny_pure ?_) | skip
  refine wpAny_bind (wpAny_sequenceKey ht.typeIs (by decide) ?_)
  refine wpAny_bind (wpAny_callSpecial?_slot (name := Str.ofString "__getitem__") ht.typeIs PyProof.Rows.slot_tuple_getitem
    (wpAny_call_entry PyProof.Rows.slot_tuple_getitem ht.typeIs entry_tuple_getitem ?_ (args_tuple_getitem _ _)))
  show wpAny _ _ (Builtin.Tuple.tupleItemsOf (.ref t) >>= _) _ _ s
  refine wpAny_bind (tupleItemsOf_ ht ?_)
  refine wpAny_bind (wpAny_typeOf hTs ?_)
  rw [if_pos (by decide)]
  refine wpAny_bind (sliceApplied_gen hs pl pu ?_)
  have hno : ¬ ((((sIx items.size 0 lo : Nat) : Int) == 0 && (1 : Int) == 1 && (sIx items.size items.size hi - sIx items.size 0 lo) == items.size) = true) := by
    intro q
    rw [Bool.and_eq_true, Bool.and_eq_true] at q
    have q1 : ((sIx items.size 0 lo : Nat) : Int) = 0 := eq_of_beq q.1.1
    have q2 : sIx items.size items.size hi - sIx items.size 0 lo = items.size := eq_of_beq q.2
    exact hw ⟨by omega, by omega⟩
  show wpAny _ _ (if (((sIx items.size 0 lo : Nat) : Int) == 0 && (1 : Int) == 1 && (sIx items.size items.size hi - sIx items.size 0 lo) == items.size) = true then _ else _) _ _ s
  rw [if_neg hno, pick_gen]
  first
    | exact wpAny_bind (m := Builtin.Tuple.tupleExact _) (wpAny_newObj_type (wpAny_pure ⟨_, rfl, wpAny_pure h⟩) htake)
    | exact wpAny_bind (m := Builtin.Tuple.tupleExact _) (wpAny_newObj_type (wpAny_bind (wpAny_pure (wpAny_pure ⟨_, rfl, wpAny_pure h⟩))) htake)
    | exact wpAny_bind (wpAny_bind (m := Builtin.Tuple.tupleExact _) (wpAny_newObj_type (wpAny_pure (wpAny_pure ⟨_, rfl, wpAny_pure h⟩)) htake))
    | exact wpAny_bind (wpAny_bind (m := Builtin.Tuple.tupleExact _) (wpAny_newObj_type (wpAny_pure ⟨_, rfl, wpAny_pure h⟩) htake))
end
end HT
namespace L2
open PySem PySem.Spec PyProof.Rows
noncomputable abbrev TO := St → Hp → (Option Int → Hp → Prop) → Prop
noncomputable def PO (X : Cx) (e : Option Expr) (t : TO) : Prop :=
  ∀ (pins : List (Addr × Obj)) (s : Shared) (σ : St) (H : Hp) (Q : Option Int → Hp → Prop), Inv X pins σ H s → t σ H Q →
    wpAny (model X.prog X.w) X.A (evalPart e X.env) (fun u s' => ∃ o H', Inv X pins σ H' s' ∧ IsPart u o ∧ Q o H') X.xe s
noncomputable def tNoPart : TO := fun _ H Q => Q none H
noncomputable def tPart (t : TE) : TO := fun σ H Q => t σ H fun x H1 => ∃ i, x = .int i ∧ Q (some i) H1
theorem intsAre_of {ns : List Int} : ∀ {us : List Value}, Vals (ns.map V.int) us → IntsAre us ns := by
  induction ns with
  | nil => intro us r; rw [List.map_nil] at r; cases r; exact .nil
  | cons n ns ih =>
    intro us r
    rw [List.map_cons] at r
    cases r with
    | cons r1 r2 =>
      obtain ⟨t, e⟩ := r1
      subst e
      exact .cons n t (ih r2)
section
variable {X : Cx} {e : Expr} {te : TE} {lo hi : Option Expr} {tl th : TO} {pos p2 : Pos}
theorem po_none : PO X none tNoPart := by
  intro pins s σ H Q I h
  rw [evalPart_none]
  exact wpAny_pure ⟨none, H, I, .none, h⟩
theorem po_some (h : PE X e te) : PO X (some e) (tPart te) := by
  intro pins s σ H Q I hw
  rw [evalPart_some]
  refine thn (h pins s σ H _ I hw) fun u s1 ⟨x, H1, I1, r1, q1⟩ => ?_
  obtain ⟨i, rfl, q⟩ := q1
  obtain ⟨t, rfl⟩ := r1
  exact ⟨some i, H1, I1, .int i t, q⟩
noncomputable def SlR (X : Cx) (r : V → Option Int → Option Int → Hp → VK → Prop) : Prop :=
  ∀ (pins : List (Addr × Obj)) (s : Shared) (σ : St) (H : Hp) (x : V) (v vl vu : Value) (lo hi : Option Int) (sl : Addr) (Q : VK), Inv X pins σ H s → RelV x v → s.heap.IsSliceOf sl vl vu .none → IsPart vl lo → IsPart vu hi → r x lo hi H Q →
    ∃ T id, typeLookup (.type T) "__getitem__" = pure (some (.builtin id)) ∧ s.TypeIs v T ∧ wpAny (model X.prog X.w) X.A (getItem v (.ref sl)) (EP X pins σ Q) X.xe s
noncomputable def tSl (r : V → Option Int → Option Int → Hp → VK → Prop) (te : TE) (tl th : TO) : TE := fun σ H Q => te σ H fun x H1 => tl σ H1 fun l H2 => th σ H2 fun u H3 => r x l u H3 Q
theorem pe_slice {r : V → Option Int → Option Int → Hp → VK → Prop} (hr : SlR X r) (he : PE X e te) (hl : PO X lo tl) (hu : PO X hi th) : PE X (.Subscript e (.Slice lo hi none p2) pos) (tSl r te tl th) := by
  intro pins s σ H Q I h
  refine Subscript_ (thn (he pins s σ H _ I h) fun v s1 ⟨x, H1, I1, r1, q1⟩ => ?_)
  refine wpAny_Slice (thn (hl pins s1 σ H1 _ I1 q1) fun vl s2 ⟨l, H2, I2, pl, q2⟩ => thn (hu pins s2 σ H2 _ I2 q2) fun vu s3 ⟨u, H3, I3, pu, q3⟩ => ?_)
  rw [evalPart_none]
  refine wpAny_pure ?_
  have I4 : Inv X pins σ H3 { s3 with heap := s3.heap.push { cls := .type "slice", data := .fields #[vl, vu, .none] } } := I3.kept (t' := s3.toks) fun b ob q => Heap.get?_push_of_some _ q
  obtain ⟨T, id, hT, ht, hg⟩ := hr pins { s3 with heap := s3.heap.push { cls := .type "slice", data := .fields #[vl, vu, .none] } } σ H3 x v vl vu l u s3.heap.objs.size Q I4 r1 (Heap.IsSliceOf.new ..) pl pu q3
  show wpAny (model X.prog X.w) X.A (subscriptTail e (.Slice lo hi none p2) v (.ref s3.heap.objs.size)) (EP X pins σ Q) X.xe { s3 with heap := s3.heap.push { cls := .type "slice", data := .fields #[vl, vu, .none] } }
  exact tail_any (ops := [.ref s3.heap.objs.size, v]) ht hT hg (by with_unfolding_all rfl)
noncomputable def cutV (xs : List V) (lo hi : Option Int) : List V := (xs.drop (HT.sIx xs.length 0 lo)).take (HT.sIx xs.length xs.length hi - HT.sIx xs.length 0 lo)
theorem cutV_length (xs : List V) (lo hi : Option Int) : (cutV xs lo hi).length ≤ xs.length := by
  unfold cutV
  rw [List.length_take, List.length_drop]
  omega
noncomputable def rSlT (K : PySem.W.Frag) : V → Option Int → Option Int → Hp → VK → Prop := fun x lo hi H Q => ∃ a xs, x = .ref a ∧ SqT K H a xs ∧
  ¬ (HT.sIx xs.length 0 lo = 0 ∧ HT.sIx xs.length xs.length hi = xs.length) ∧ ∀ p, H p = none → Q (.ref p) (upd H p (.tup (cutV xs lo hi)))
theorem sl_tup : SlR X (rSlT X.K) := by
  intro pins s σ H x v vl vu lo hi sl Q I rx hs pl pu h
  obtain ⟨a, xs, rfl, hx, hw, q⟩ := h
  cases rx
  obtain ⟨its, r, ht, hz⟩ := I.tuple hx
  have hlen : its.toArray.size = xs.length := by rw [List.size_toArray]; exact r.length.symm
  refine ⟨"tuple", _, PyProof.Rows.slot_tuple_getitem.lookup, ht.typeIs, ?_⟩
  refine HT.getItem_tuple_cut ht hs pl pu (by rw [hlen]; exact hw) ?_ (by rw [hlen]; exact hz)
  rw [hlen]
  refine ⟨.ref s.heap.objs.size, _, I.laid (t' := s.toks) (o := .tup (cutV xs lo hi)) (fun b ob q => Heap.get?_push_of_some _ q) (Nat.le_refl _) ?_, rfl, q _ (I.hok.fresh (Nat.le_refl _))⟩
  exact ⟨Nat.le_trans (cutV_length xs lo hi) hz, _, (r.drop (HT.sIx xs.length 0 lo)).take (HT.sIx xs.length xs.length hi - HT.sIx xs.length 0 lo), IsTup.new _ _⟩
end
end L2
namespace L2
open PySem PySem.Spec PyProof.Rows
noncomputable def ixN (n : Nat) (i : Int) : Option Nat := if 0 ≤ i then (if i < n then some i.toNat else none) else if -(n : Int) ≤ i then some (i + n).toNat else none
noncomputable def atI {α : Type} (xs : List α) (i : Int) : Option α := (ixN xs.length i).bind fun j => xs[j]?
theorem ixN_seq {n : Nat} {i : Int} {j : Nat} (h : ixN n i = some j) : seqIndex? i n = some j ∧ j < n ∧ -(n : Int) ≤ i ∧ i < n := by
  unfold ixN at h
  by_cases h0 : 0 ≤ i
  · rw [if_pos h0] at h
    by_cases h1 : i < n
    · rw [if_pos h1] at h
      have e : i.toNat = j := Option.some.inj h
      exact ⟨by rw [seqIndex_of h0 h1, e], by omega, by omega, h1⟩
    · rw [if_neg h1] at h; cases h
  · rw [if_neg h0] at h
    by_cases h1 : -(n : Int) ≤ i
    · rw [if_pos h1] at h
      have e : (i + n).toNat = j := Option.some.inj h
      exact ⟨by rw [seqIndex_neg (by omega) h1, e], by omega, h1, by omega⟩
    · rw [if_neg h1] at h; cases h
theorem atI_get {α : Type} {xs : List α} {i : Int} {v : α} (h : atI xs i = some v) : ∃ j, seqIndex? i xs.length = some j ∧ xs[j]? = some v ∧ j < xs.length ∧ -(xs.length : Int) ≤ i ∧ i < xs.length := by
  unfold atI at h
  cases e : ixN xs.length i with
  | none => rw [e] at h; cases h
  | some j =>
    rw [e] at h
    obtain ⟨h1, h2, h3, h4⟩ := ixN_seq e
    exact ⟨j, h1, h, h2, h3, h4⟩
theorem atI_nat {α : Type} {xs : List α} {j : Nat} {v : α} (h : xs[j]? = some v) : atI xs (j : Int) = some v := by
  have hj : j < xs.length := (List.getElem?_eq_some_iff.mp h).1
  have e : ixN xs.length (j : Int) = some j := by
    unfold ixN
    rw [if_pos (by omega), if_pos (by omega)]; simp
  unfold atI; rw [e]; exact h
noncomputable def PlainIx (b : Expr) : Prop := ∀ o i, subscripted b false o i = operate [o, i] (getItem o i)
noncomputable def IxR (X : Cx) (r : R2) : Prop :=
  ∀ (value slice : Expr) (pins : List (Addr × Obj)) (s : Shared) (σ : St) (H : Hp) (x y : V) (v u : Value) (Q : VK), Inv X pins σ H s → RelV x v → RelV y u → r x y H Q →
    subscripted slice false v u = operate [v, u] (getItem v u) → wpAny (model X.prog X.w) X.A (subscriptTail value slice v u) (EP X pins σ Q) X.xe s
noncomputable def MtR (X : Cx) (id : String) (r : V → List V → Hp → VK → Prop) : Prop :=
  ∀ (pins : List (Addr × Obj)) (s : Shared) (σ : St) (H : Hp) (x : V) (xs : List V) (v : Value) (us : List Value) (Q : VK), Inv X pins σ H s → RelV x v → Vals xs us → r x xs H Q →
    wpAny (model X.prog X.w) X.A (call (.builtin id) (v :: us)) (EP X pins σ Q) X.xe s
section
variable {X : Cx} {a b : Expr} {ta tb : TE} {pos : Pos}
theorem IxR.or {r r' : R2} (h : IxR X r) (h' : IxR X r') : IxR X (fun x y H Q => r x y H Q ∨ r' x y H Q) := by
  intro value slice pins s σ H x y v u Q I rx ry q hs
  rcases q with q | q
  · exact h value slice pins s σ H x y v u Q I rx ry q hs
  · exact h' value slice pins s σ H x y v u Q I rx ry q hs
theorem pe_ix {r : R2} (hr : IxR X r) (ha : PE X a ta) (hb : PE X b tb) (hs : PlainIx b) : PE X (.Subscript a b pos) (tOp r ta tb) := by
  intro pins s σ H Q I h
  exact Subscript_ (binT ha hb I h fun v u s2 x y H2 I2 rx ry q => hr a b pins s2 σ H2 x y v u Q I2 rx ry q (hs _ _))
noncomputable def rIxL (K : PySem.W.Frag) : R2 := fun x y H Q => ∃ p xs i v, x = .ref p ∧ y = .int i ∧ SqL K H p xs ∧ atI xs i = some v ∧ Q v H
noncomputable def rIxT (K : PySem.W.Frag) : R2 := fun x y H Q => ∃ p xs i v, x = .ref p ∧ y = .int i ∧ SqT K H p xs ∧ atI xs i = some v ∧ Q v H
noncomputable def rIxS : R2 := fun x y H Q => ∃ z i c, x = .str z ∧ y = .int i ∧ z.length ≤ sizeLine ∧ atI z.cps.toList i = some c ∧ Q (.str ⟨#[c]⟩) H
theorem ix_list : IxR X (rIxL X.K) := by
  intro value slice pins s σ H x y v u Q I rx ry h hs
  obtain ⟨p, xs, i, z, rfl, rfl, hq, he, q⟩ := h
  cases rx
  obtain ⟨t, rfl⟩ := ry
  obtain ⟨its, r, pl, hz⟩ := I.list hq
  obtain ⟨j, h1, h2, h3, h4, h5⟩ := atI_get he
  obtain ⟨w, ew, rw'⟩ := r.get h2
  have hl := r.length
  have hn := line63
  have fin : EP X pins σ Q w s := ⟨z, H, I, rw', q⟩
  by_cases h0 : 0 ≤ i
  · have hj : i.toNat = j := by
      rw [seqIndex_of h0 h5] at h1
      exact Option.some.inj h1
    exact item_listR pl.isList h0 (by omega) (by rw [hj]; simpa using ew) fin hs
  · have hj : (i + (its.toArray.size : Int)).toNat = j := by
      rw [seqIndex_neg (by omega) h4] at h1
      rw [List.size_toArray, ← hl]
      exact Option.some.inj h1
    exact subscriptTail_builtinR (x := w) pl.isList.typeIs slot_list_getitem.lookup
      (wpAny_getItem_list_neg (Q := fun r s' => r = w ∧ EP X pins σ Q r s') pl.isList (by omega) (by rw [List.size_toArray] <;> omega) (by omega) (by rw [hj]; simpa using ew) ⟨rfl, fin⟩) hs
theorem ix_tup : IxR X (rIxT X.K) := by
  intro value slice pins s σ H x y v u Q I rx ry h hs
  obtain ⟨p, xs, i, z, rfl, rfl, hq, he, q⟩ := h
  cases rx
  obtain ⟨t, rfl⟩ := ry
  obtain ⟨its, r, pl, hz⟩ := I.tuple hq
  obtain ⟨j, h1, h2, h3, h4, h5⟩ := atI_get he
  obtain ⟨w, ew, rw'⟩ := r.get h2
  have hl := r.length
  have hn := line63
  have fin : EP X pins σ Q w s := ⟨z, H, I, rw', q⟩
  exact subscriptTail_builtinR (x := w) pl.typeIs slot_tuple_getitem.lookup
    (getItem_tuple (j := j) (Q := fun r s' => r = w ∧ EP X pins σ Q r s') pl (by omega) (by omega) (by rw [List.size_toArray, ← hl]; exact h1) (by simpa using ew) ⟨rfl, fin⟩) hs
theorem ix_str : IxR X rIxS := by
  intro value slice pins s σ H x y v u Q I rx ry h hs
  obtain ⟨z, i, c, rfl, rfl, hz, he, q⟩ := h
  obtain ⟨t, rfl⟩ := rx
  obtain ⟨t', rfl⟩ := ry
  obtain ⟨j, h1, h2, h3, h4, h5⟩ := atI_get he
  have hl : z.cps.toList.length = z.length := by simp [Str.length]
  rw [hl] at h1 h4 h5
  have hn := line63
  exact tail_any (typeIs_str s z t) slot_str_getitem.lookup (getItem_str (c := c) (by
    have e1 : decide (i < -(2 ^ 63 : Int)) = false := decide_eq_false (by omega)
    have e2 : decide (i ≥ 2 ^ 63) = false := decide_eq_false (by omega)
    rw [e1, e2, Bool.or_false]) (by rw [h1]; simpa using h2) ⟨.str ⟨#[c]⟩, H, I.tok _, ⟨_, rfl⟩, q⟩) hs
noncomputable def rIx (K : PySem.W.Frag) : R2 := fun x y H Q => rIxL K x y H Q ∨ rIxT K x y H Q ∨ rIxS x y H Q
theorem ix_seq : IxR X (rIx X.K) := ix_list.or (ix_tup.or ix_str)
theorem mapSeq_set (its : List Value) (n j : Nat) (u : Value) : Obj.mapSeq (·.setIfInBounds j u) { cls := .type "list", data := .seq its.toArray n } = { cls := .type "list", data := .seq (its.set j u).toArray n } := by
  simp [Obj.mapSeq]
theorem Inv.lst {pins : List (Addr × Obj)} {σ : St} {H : Hp} {s : Shared} {p : Addr} {xs : List V} (I : Inv X pins σ H s) (h : H p = some (.lst xs)) :
    ∃ (its : List Value) (n : Nat), Vals xs its ∧ s.heap.get? p = some { cls := .type "list", data := .seq its.toArray n } ∧ xs.length ≤ sizeLine := by
  obtain ⟨z, its, n, r, e⟩ := I.hok p _ h
  exact ⟨its, n, r, e, z⟩
theorem Inv.lstUpd {pins : List (Addr × Obj)} {σ : St} {H : Hp} {s : Shared} {p : Addr} {xs ys : List V} {its its' : List Value} {n n' : Nat} {f : Obj → Obj} (I : Inv X pins σ H s) (h : H p = some (.lst xs))
    (ho : s.heap.get? p = some { cls := .type "list", data := .seq its.toArray n }) (hf : f { cls := .type "list", data := .seq its.toArray n } = { cls := .type "list", data := .seq its'.toArray n' }) (r : Vals ys its') (hz : ys.length ≤ sizeLine) (t : Nat) :
    Inv X pins σ (upd H p (.lst ys)) { s with heap := s.heap.update p f, toks := t } := by
  have e : (s.heap.update p f).get? p = some { cls := .type "list", data := .seq its'.toArray n' } := by
    rw [Heap.get?_update_self f ho (by rw [hf] <;> rfl), hf]
  refine I.write (x := p) (e := p) (by rw [h]; trivial) (.inl rfl) (fun b u hb q => (Heap.get?_update_other _ _ (Ne.symm hb)).trans q) ⟨_, e⟩ ?_
  exact ⟨hz, its', n', r, e⟩
noncomputable def rSetL : V → V → V → Hp → (Hp → Prop) → Prop := fun o i v H Q => ∃ p xs k j, o = .ref p ∧ i = .int k ∧ H p = some (.lst xs) ∧ ixN xs.length k = some j ∧ Q (upd H p (.lst (xs.set j v)))
theorem set_list : PSet X rSetL := by
  intro pins s σ H o i v ov iv u Q I ro ri rv h
  obtain ⟨p, xs, k, j, rfl, rfl, hp, hj, q⟩ := h
  cases ro
  obtain ⟨t, rfl⟩ := ri
  obtain ⟨its, n, r, ho, hz⟩ := I.lst hp
  obtain ⟨h1, h2, h3, h4⟩ := ixN_seq hj
  have hl := r.length
  have hn := line63
  have I' : Inv X pins σ (upd H p (.lst (xs.set j v))) { s with heap := s.heap.update p (Obj.mapSeq (·.setIfInBounds j u)) } :=
    I.lstUpd hp ho (mapSeq_set its n j u) (r.set rv j) (by rw [List.length_set]; exact hz) s.toks
  by_cases h0 : 0 ≤ k
  · have hk : k.toNat = j := by
      rw [seqIndex_of h0 h4] at h1
      exact Option.some.inj h1
    exact PySem.W.ki_setAt ho h0 (by omega) (by rw [List.size_toArray, ← hl]; exact h4) (by rw [hk]; exact ⟨_, I', q⟩)
  · have hk : (k + (its.toArray.size : Int)).toNat = j := by
      rw [seqIndex_neg (by omega) h3] at h1
      rw [List.size_toArray, ← hl]
      exact Option.some.inj h1
    exact PySem.W.ki_setBack ho (by omega) (by rw [List.size_toArray, ← hl]; exact h3) (by omega) (by rw [hk]; exact ⟨_, I', q⟩)
theorem call_len_seq : CallR X (.builtin "len") (fun xs H Q => ∃ p ys, xs = [.ref p] ∧ (SqL X.K H p ys ∨ SqT X.K H p ys) ∧ Q (.int ys.length) H) := by
  intro pins s σ H xs us Q I r h
  obtain ⟨p, ys, rfl, hq, q⟩ := h
  obtain ⟨u, rfl, rx⟩ := vals1 r
  cases rx
  have hn := line63
  rcases hq with hq | hq
  · obtain ⟨its, r', pl, hz⟩ := I.list hq
    have hlen := r'.length
    exact Calls.call_len_list pl.isList (by simp only [List.size_toArray] <;> omega) ⟨.int ys.length, H, I.tok _, ⟨s.toks + 1, by rw [List.size_toArray, hlen]⟩, q⟩
  · obtain ⟨its, r', pl, hz⟩ := I.tuple hq
    have hlen := r'.length
    exact len_tuple pl (by simp only [List.size_toArray] <;> omega) ⟨.int ys.length, H, I.tok _, ⟨s.toks + 1, by rw [List.size_toArray, hlen]⟩, q⟩
theorem call_len_str : CallR X (.builtin "len") (fun xs H Q => ∃ z, xs = [.str z] ∧ z.length ≤ sizeLine ∧ Q (.int z.length) H) := by
  intro pins s σ H xs us Q I r h
  obtain ⟨z, rfl, hz, q⟩ := h
  obtain ⟨u, rfl, t, rfl⟩ := vals1 r
  have hn := line63
  exact len_str (by omega) ⟨.int z.length, H, I.tok _, ⟨_, rfl⟩, q⟩
theorem call_list_of : CallR X (.type "list") (fun xs H Q => ∃ p ys, xs = [.ref p] ∧ (SqL X.K H p ys ∨ SqT X.K H p ys) ∧ ∀ l, H l = none → Q (.ref l) (upd H l (.lst ys))) := by
  intro pins s σ H xs us Q I r h
  obtain ⟨p, ys, rfl, hq, q⟩ := h
  obtain ⟨u, rfl, rx⟩ := vals1 r
  cases rx
  have fin : ∀ (its : List Value), Vals ys its → ys.length ≤ sizeLine → ∀ (h' : Heap) (c' : Nat), (∀ b o', s.heap.get? b = some o' → h'.get? b = some o') →
      h'.get? s.heap.objs.size = some { cls := .type "list", dict := none, data := .seq its.toArray c', slots := #[] } → EP X pins σ Q (.ref s.heap.objs.size) { s with heap := h' } := fun its r' hz h' c' kp e =>
    ⟨.ref s.heap.objs.size, _, I.laid (t' := s.toks) kp (Nat.le_refl _) (show ObjOk X.prog X.w _ h' _ (.lst ys) from ⟨hz, its, c', r', e⟩), rfl, q _ (I.hok.fresh (Nat.le_refl _))⟩
  rcases hq with hq | hq
  · obtain ⟨its, r', pl, hz⟩ := I.list hq
    have hlen := r'.length
    obtain ⟨o, ho, hc, n, hd⟩ := pl.isList
    exact call_list_seq p (.inl rfl) ho hc hd (fun h' c' kp e => fin its r' hz h' c' kp e) (by simp only [List.size_toArray] <;> omega)
  · obtain ⟨its, r', pl, hz⟩ := I.tuple hq
    have hlen := r'.length
    obtain ⟨o, ho, hc, n, hd⟩ := pl
    exact call_list_seq p (.inr rfl) ho hc hd (fun h' c' kp e => fin its r' hz h' c' kp e) (by simp only [List.size_toArray] <;> omega)
noncomputable def tyV (K : PySem.W.Frag) (T : String) (x : V) (H : Hp) : Prop := match x with
  | .str _ => T = "str"
  | .int _ => T = "int"
  | .ref p => (T = "list" ∧ ∃ xs, SqL K H p xs) ∨ (T = "tuple" ∧ ∃ o, K.lookup p = some o ∧ o.cls = .type "tuple" ∧ o.dict = none) ∨
      (T = "dict" ∧ ((∃ kvs, H p = some (.dK kvs)) ∨ ∃ kvs, H p = some (.dT kvs))) ∨ (T = "set" ∧ ∃ S n, H p = some (.set S n))
  | _ => False
theorem tyV_is {pins : List (Addr × Obj)} {σ : St} {H : Hp} {s : Shared} {T : String} {x : V} {v : Value} (I : Inv X pins σ H s) (r : RelV x v) (ty : tyV X.K T x H) :
    s.TypeIs v T ∧ ∀ a, v = .ref a → ∃ ob, s.heap.get? a = some ob ∧ ob.dict = none := by
  cases x with
  | str z =>
    obtain ⟨t, rfl⟩ := r
    cases (show T = "str" from ty)
    exact ⟨typeIs_str s z t, fun _ e => nomatch e⟩
  | int i =>
    obtain ⟨t, rfl⟩ := r
    cases (show T = "int" from ty)
    exact ⟨typeIs_int s i t, fun _ e => nomatch e⟩
  | ref p =>
    cases r
    rcases ty with ⟨rfl, xs, hq⟩ | ⟨rfl, o, hk, hc, hd⟩ | ⟨rfl, hk⟩ | ⟨rfl, S, n, hk⟩
    · obtain ⟨its, _, pl, _⟩ := I.list hq
      refine ⟨pl.isList.typeIs, fun a e => ?_⟩
      cases e
      obtain ⟨o, n, e, c, hd, _⟩ := pl
      exact ⟨o, e, hd⟩
    · refine ⟨⟨o, I.kIn p o hk, hc⟩, fun a e => ?_⟩
      cases e
      exact ⟨o, I.kIn _ o hk, hd⟩
    · have z : ∃ o, s.heap.get? p = some o ∧ o.ExactDict := by
        rcases hk with ⟨kvs, hk⟩ | ⟨kvs, hk⟩
        · obtain ⟨_, _, _, _, o, _, _, e, ex, _⟩ := I.hok p _ hk
          exact ⟨o, e, ex⟩
        · obtain ⟨_, _, _, _, o, _, _, e, ex, _⟩ := I.hok p _ hk
          exact ⟨o, e, ex⟩
      obtain ⟨o, e, ex⟩ := z
      refine ⟨⟨o, e, ex.1⟩, fun a e2 => ?_⟩
      cases e2
      exact ⟨o, e, ex.2.1⟩
    · obtain ⟨o, _, _, _, e, ex, _⟩ := I.hok p _ hk
      refine ⟨⟨o, e, ex.1⟩, fun a e2 => ?_⟩
      cases e2
      exact ⟨o, e, ex.2.1⟩
  | _ => exact False.elim ty
noncomputable def tBM0 (K : PySem.W.Frag) (T : String) (r : V → List V → Hp → VK → Prop) (to : TE) : TE := fun σ H Q => to σ H fun x H1 => tyV K T x H1 ∧ r x [] H1 Q
noncomputable def tBM (K : PySem.W.Frag) (T : String) (r : V → List V → Hp → VK → Prop) (to : TE) (t : TA) : TE := fun σ H Q => to σ H fun x H1 => tyV K T x H1 ∧ t σ H1 fun xs H2 => r x xs H2 Q
variable {o e : Expr} {es : List Expr} {to : TE} {t : TA} {name : Str} {apos cpos : Pos} {T id : String} {r : V → List V → Hp → VK → Prop}
theorem pe_bm0 (pa : PlainAttrs T) (slot : Slot T name id) (hty : typeOf (.builtin id) = pure (.type "method_descriptor")) (hm : MtR X id r) (ho : PE X o to)
    (hbase : attributeBase o name X.env (eval o X.env) = eval o X.env := by rfl) (hline : (apos.endLine == cpos.line) = true := by rfl) : PE X (.Call (.Attribute o name apos) [] [] cpos) (tBM0 X.K T r to) := by
  intro pins s σ H Q I h
  refine wpAny_Call_method0_late hbase hline (thn (ho pins s σ H _ I h) fun v s1 ⟨x, H1, I1, r1, ty, q1⟩ => ?_)
  obtain ⟨h1, h2⟩ := tyV_is I1 r1 ty
  exact ⟨T, id, pa, slot, hty, h1, h2, Calls.callWith_builtin rfl (PySem.evalArgs_none (hm pins s1 σ H1 x [] v [] Q I1 r1 .nil q1))⟩
theorem pe_bm (pa : PlainAttrs T) (slot : Slot T name id) (hty : typeOf (.builtin id) = pure (.type "method_descriptor")) (hm : MtR X id r) (ho : PE X o to) (ha : PA X (e :: es) t)
    (hbase : attributeBase o name X.env (eval o X.env) = eval o X.env := by rfl)
    (hfew : ((backTo cpos (starEach (e :: es) X.env)).all (fun x => !x.1) && (backToKw cpos (keywordEach [] X.env)).all (fun x => x.1.isSome)
      && decide ((e :: es).length + ([] : List Keyword).length + (if ([] : List Keyword).isEmpty then 0 else 1) < 30)) = true := by rfl)
    (hline : (apos.endLine == cpos.line) = true := by rfl) (hs : starEach (e :: es) X.env = (false, eval e X.env) :: starEach es X.env := by rfl) (hplain : (backTo cpos (starEach es X.env)).any (·.1) = false := by rfl) :
    PE X (.Call (.Attribute o name apos) (e :: es) [] cpos) (tBM X.K T r to t) := by
  intro pins s σ H Q I h
  refine wpAny_Call_method_late hbase hfew hline rfl (thn (ho pins s σ H _ I h) fun v s1 ⟨x, H1, I1, r1, ty, q1⟩ => ?_)
  obtain ⟨h1, h2⟩ := tyV_is I1 r1 ty
  refine ⟨T, id, pa, slot, hty, h1, h2, ?_⟩
  have hA := ha cpos pins s1 σ H1 _ I1 q1
  rw [hs] at hA ⊢
  refine Calls.callWith_builtin (by show (false || (backTo cpos (starEach es X.env)).any (·.1)) = false; rw [hplain] <;> rfl) (Calls.evalArgs_plain ?_)
  exact thn hA fun us s2 ⟨vs, H2, I2, r2, q2⟩ => hm pins s2 σ H2 x vs v us Q I2 r1 r2 q2
/- xs.append(e), list.index on a module's tuple .. are MtR facts of 06m -/
end
end L2
namespace L2
open PySem PySem.Spec PyProof.Rows
noncomputable def MtM (X : Cx) (id : String) (r : V → List V → Hp → VK → Prop) : Prop :=
  ∀ (pins : List (Addr × Obj)) (s : Shared) (σ : St) (H : Hp) (x : V) (xs : List V) (v : Value) (us : List Value) (Q : VK), Inv X pins σ H s → RelV x v → Vals xs us → r x xs H Q →
    wpAny (model X.prog X.w) X.A (call (.builtin id) (v :: us)) (EP X pins σ Q) X.xe s
theorem Vals.one : ∀ {x : V} {us : List Value}, Vals [x] us → ∃ u, us = [u] ∧ RelV x u
  | _, _, .cons r .nil => ⟨_, rfl, r⟩
theorem Vals.zero : ∀ {us : List Value}, Vals [] us → us = []
  | _, .nil => rfl
theorem Vals.rep {xs : List V} {us : List Value} (h : Vals xs us) : ∀ k : Nat, Vals (List.replicate k xs).flatten (List.replicate k us).flatten
  | 0 => .nil
  | k + 1 => by
    rw [List.replicate_succ, List.replicate_succ, List.flatten_cons, List.flatten_cons]
    exact Vals.append h (Vals.rep h k)
theorem foldl_rep (its : List Value) : ∀ (k : Nat) (acc : List Value),
    List.foldl (fun x1 x2 => x1 ++ x2) acc.toArray (List.replicate k its.toArray) = (acc ++ (List.replicate k its).flatten).toArray
  | 0, acc => by simp
  | k + 1, acc => by
    have e : acc.toArray ++ its.toArray = (acc ++ its).toArray := by simp
    have e2 : (acc ++ its) ++ (List.replicate k its).flatten = acc ++ (List.replicate (k + 1) its).flatten := by
      rw [List.replicate_succ, List.flatten_cons, List.append_assoc]
    rw [← e2, ← foldl_rep its k (acc ++ its), ← e, List.replicate_succ, List.foldl_cons]
section
variable {X : Cx} {pins : List (Addr × Obj)} {σ : St} {H : Hp} {s : Shared} {l b : Addr} {xs ys zs : List V}
theorem Inv.lset {its its' : List Value} {n : Nat} {f : Array Value → Array Value} {t' : Nat} (I : Inv X pins σ H s) (hH : H l = some (.lst xs))
    (e : s.heap.get? l = some { cls := .type "list", data := .seq its.toArray n }) (hf : f its.toArray = its'.toArray) (hv : Vals ys its') (hz : ys.length ≤ sizeLine) :
    Inv X pins σ (upd H l (.lst ys)) { s with heap := s.heap.update l (Obj.mapSeq f), toks := t' } := by
  have q := PySem.IsL.update e f
  rw [hf] at q
  refine I.write (x := l) (e := l) (by rw [hH]; exact trivial) (.inl rfl) (fun b' u hb hu => (Heap.get?_update_other s.heap (Obj.mapSeq f) (Ne.symm hb)).trans hu) ⟨_, q⟩ ?_
  exact ⟨hz, its', _, hv, q⟩
theorem Inv.lnew {its : List Value} {t' : Nat} (I : Inv X pins σ H s) (hv : Vals ys its) (hz : ys.length ≤ sizeLine) :
    Inv X pins σ (upd H s.heap.objs.size (.lst ys)) { s with heap := s.heap.push { cls := .type "list", data := .seq its.toArray }, toks := t' } :=
  I.laid (fun _ _ q => Heap.get?_push_of_some _ q) (Nat.le_refl _) ⟨hz, its, 0, hv, Heap.get?_push_size _ rfl⟩
theorem Inv.fresh (I : Inv X pins σ H s) : H s.heap.objs.size = none := I.hok.fresh (Nat.le_refl _)
theorem Inv.lstM (I : Inv X pins σ H s) (hH : H l = some (.lst xs)) : xs.length ≤ sizeLine ∧ ∃ (its : List Value) (n : Nat), Vals xs its ∧ xs.length = its.length ∧ s.heap.get? l = some { cls := .type "list", data := .seq its.toArray n } := by
  obtain ⟨z, its, n, r, e⟩ := I.hok l _ hH
  exact ⟨z, its, n, r, r.length, e⟩
theorem notLongL {n : Nat} (h : n ≤ sizeLine) : Builtin.List.listTooLong n = false := by
  unfold Builtin.List.listTooLong
  exact decide_eq_false (by omega)
end
section
variable {X : Cx}
noncomputable def rAppend : V → List V → Hp → VK → Prop := fun x vs H Q => ∃ l xs y, x = .ref l ∧ vs = [y] ∧ H l = some (.lst xs) ∧ xs.length < sizeLine ∧ Q .non (upd H l (.lst (xs ++ [y])))
theorem mt_append : MtM X "list.append" rAppend := by
  intro pins s σ H x vs v us Q I rx rv h
  obtain ⟨l, xs, y, rfl, rfl, hH, hz, q⟩ := h
  cases rx
  obtain ⟨u, rfl, ru⟩ := rv.one
  obtain ⟨z, its, n, r, hl, e⟩ := I.lstM hH
  refine call_meets F.slot_list_append ⟨_, e, rfl⟩ F.entry_list_append (F.args_list_append_2 _ _) (PySem.list_append l its.toArray n u (by rw [List.size_toArray]; omega)) ⟨e, ?_⟩
  refine ⟨.non, _, I.lset (its' := its ++ [u]) hH e (by simp) (r.append (.cons ru .nil)) ?_, rfl, q⟩
  rw [List.length_append, List.length_singleton]
  omega
noncomputable def rClear : V → List V → Hp → VK → Prop := fun x vs H Q => ∃ l xs, x = .ref l ∧ vs = [] ∧ H l = some (.lst xs) ∧ Q .non (upd H l (.lst []))
theorem mt_clear : MtM X "list.clear" rClear := by
  intro pins s σ H x vs v us Q I rx rv h
  obtain ⟨l, xs, rfl, rfl, hH, q⟩ := h
  cases rx
  have hus := rv.zero
  subst hus
  obtain ⟨z, its, n, r, hl, e⟩ := I.lstM hH
  refine call_meets F.slot_list_clear ⟨_, e, rfl⟩ F.entry_list_clear (F.args_list_clear_1 _) (AutoSeq1.list_clear_list_0 l its.toArray n (by rw [List.size_toArray]; omega)) ⟨e, ?_⟩
  exact ⟨.non, _, I.lset (its' := []) (ys := []) hH e rfl .nil (Nat.zero_le _), rfl, q⟩
noncomputable def rCat : R2 := fun x y H Q => ∃ l b xs zs, x = .ref l ∧ y = .ref b ∧ H l = some (.lst xs) ∧ H b = some (.lst zs) ∧ xs.length + zs.length ≤ sizeLine ∧ ∀ p, H p = none → Q (.ref p) (upd H p (.lst (xs ++ zs)))
theorem op_cat : OpR X (binaryOp .Add) rCat := by
  intro pins s σ H x y v u Q I rx ry h
  obtain ⟨l, b, xs, zs, rfl, rfl, hH, hB, hz, q⟩ := h
  cases rx
  cases ry
  obtain ⟨z, its, n, r, hl, e⟩ := I.lstM hH
  obtain ⟨z2, its2, n2, r2, hl2, e2⟩ := I.lstM hB
  refine PySem.P.add_list e e2 ?_ (by rw [List.size_toArray, List.size_toArray]; omega)
  have ea : its.toArray ++ its2.toArray = (its ++ its2).toArray := by simp
  rw [ea]
  exact ⟨.ref _, _, I.lnew (t' := s.toks) (r.append r2) (by rw [List.length_append]; omega), rfl, q _ I.fresh⟩
noncomputable def rRep : R2 := fun x y H Q => ∃ l k xs, x = .ref l ∧ y = .int k ∧ H l = some (.lst xs) ∧ -(2 ^ 63) ≤ k ∧ k < 2 ^ 63 ∧ xs.length * k.toNat ≤ sizeLine ∧
  ∀ p, H p = none → Q (.ref p) (upd H p (.lst (List.replicate k.toNat xs).flatten))
theorem len_rep {α : Type} (xs : List α) (k : Nat) : (List.replicate k xs).flatten.length = k * xs.length := by
  induction k with
  | zero => simp
  | succ k ih => rw [List.replicate_succ, List.flatten_cons, List.length_append, ih, Nat.succ_mul, Nat.add_comm]
theorem op_rep : OpR X (binaryOp .Mult) rRep := by
  intro pins s σ H x y v u Q I rx ry h
  obtain ⟨l, k, xs, rfl, rfl, hH, h1, h2, hz, q⟩ := h
  cases rx
  obtain ⟨t, rfl⟩ := ry
  obtain ⟨z, its, n, r, hl, e⟩ := I.lstM hH
  have hlen : its.toArray.size * k.toNat ≤ sizeLine := by rw [List.size_toArray, ← hl]; exact hz
  have hcap : ¬ its.toArray.size * k.toNat > (2 ^ 63 - 1) / 8 := by
    have : (sizeLine : Nat) ≤ (2 ^ 63 - 1) / 8 := by decide
    omega
  have hfit : ¬ (!Builtin.List.listFitsIndex k) = true := by
    rw [fitsIndex_both h1 h2]
    exact Bool.false_ne_true
  have hlong : ¬ Builtin.List.listTooLong (its.toArray.size * k.toNat) = true := by
    rw [notLongL hlen]
    exact Bool.false_ne_true
  have hnew : List.foldl (fun x1 x2 => x1 ++ x2) #[] (List.replicate (if its.toArray.isEmpty = true then 0 else k.toNat) its.toArray) = (List.replicate k.toNat its).flatten.toArray := by
    have f0 : ∀ m : Nat, List.foldl (fun x1 x2 => x1 ++ x2) #[] (List.replicate m its.toArray) = (List.replicate m its).flatten.toArray := fun m => by
      have := foldl_rep its m []
      rw [List.nil_append] at this
      exact this
    rw [f0]
    cases its with
    | nil => simp
    | cons a r' => rw [if_neg (by simp)]
  refine wpAny_binaryOp_repeat_ref (T := "list") (U := "int") (by decide) ⟨_, e, rfl⟩ (fun s' => typeIs_int s' k t) noFill_list_mul F.fills_int_mul F.slot_int_rmul repeat_list F.slot_int_index.lookup
    (call_meets F.slot_int_rmul (typeIs_int s k t) F.entry_int_rmul (F.args_int_rmul_2 _ _) (int___rmul___int_list k t l its.toArray n)
      ⟨e, rfl, ⟨_, e, rfl⟩, call_meets F.slot_list_mul ⟨_, e, rfl⟩ F.entry_list_mul (F.args_list_mul_2 _ _) (AutoListH.list___mul___list_int_3 l its.toArray n k t hfit hcap hlong) ⟨e, ?_⟩⟩)
  rw [hnew]
  exact ⟨.ref _, _, I.lnew (t' := s.toks) (r.rep k.toNat) (by rw [len_rep, Nat.mul_comm]; exact hz), rfl, q _ I.fresh⟩
end
section
variable {prog : Program} {w : World} {A : Around} {E : Value → Shared → Prop} {s : Shared}
end
section
variable {X : Cx}
end
end L2
namespace Att
open PySem PySem.W PySem.Calls PyProof.Rows
theorem ints_of_wellAll {P : Params} {h : Heap} : ∀ (ns : List Int) (vs : List Value), WellAll P h vs (ns.map WData.int) → IntsAre vs ns := by
  intro ns
  induction ns with
  | nil =>
    intro vs w
    rw [List.map_nil] at w
    cases w
    exact .nil
  | cons n ns ih =>
    intro vs w
    rw [List.map_cons] at w
    cases w with
    | cons a b =>
      cases a
      exact .cons _ _ (ih _ b)
theorem script_of {l : OpenLaw} {n : Nat} (hn : l.most = some n) {P : Params} {h : Heap} {args : List WData} {vals : List Value}
    (hpre : l.row.toRowW.claim.pre args = true) (hwl : WellAll P h vals args) :
    ∃ a vs ns, vals = [Value.ref a] ∧ args = [WData.list (ns.map WData.int)] ∧ h.get? a = some { cls := .type "list", data := .seq vs.toArray } ∧ IntsAre vs ns ∧ ns.length ≤ n := by
  have hsh : WShape.hasAll [] args [.list .int] = true := (pre_splitW hpre).1
  have hc : l.pre.holds [] { args := args } = true := (pre_splitW hpre).2
  obtain ⟨d, r, rfl, h1, h2⟩ := hasAllW_cons hsh
  obtain rfl := hasAllW_nil h2
  obtain ⟨xs, rfl, h3⟩ := hasW_list h1
  obtain ⟨ns, rfl⟩ := items_int h3
  have hlen : ns.length ≤ n := by
    unfold OpenLaw.pre at hc
    have h4 : (WTm.not (.lt (.lit (.int (n : Int))) (.len (.arg 0)))).holds [] { args := [.list (ns.map .int)] } = true := by
      have h4 := (holds_andW hc).1
      rw [hn] at h4
      exact h4
    have h5 := condW_of h4 (w_not (w_lt w_lit (w_len_list (w_arg rfl))))
    rw [List.length_map] at h5
    refine Nat.le_of_not_lt fun q => ?_
    have q' : (n : Int) < ((ns.length : Nat) : Int) := by omega
    first
      | (rw [decide_eq_true q'] at h5; exact absurd h5 (by decide))
      | (simp at h5; omega)
  cases hwl with
  | cons w1 w2 =>
    cases w2
    cases w1 with
    | list ho hall => exact ⟨_, _, ns, rfl, rfl, ho, ints_of_wellAll ns _ hall, hlen⟩
theorem post_true (l : OpenLaw) (args : List WData) : l.row.toRowW.claim.post args (.bool true) args = true :=
  postW_of (r := l.row.toRowW) (X := (true == true))
    (show WShape.has [] (.bool true) .bool = true by first | rfl | decide | simp [WShape.has, WShape.arms, WShape.armsAll])
    (show (WTm.eq .res (.lit (.bool true))).value [] { args := args, res := some (.bool true), after := args } = some (.bool (true == true)) from w_eq_bool (w_res rfl) w_lit) rfl
theorem attach_call {l : OpenLaw} {n : Nat} {q : Program} {loose : List Str} {XP : (Str → Option Value) → Heap → Prop} {YP : World → Heap → Prop} {d : DefRec}
    (hn : l.most = some n) (hdf : d.params.defaults = [])
    (call : ∀ (w : World) (s₀ s₁ : Shared) (mg mb : Str → Option Value) (fa : Addr) (o : Obj) (pm cd doc : Value) (a : Addr) (vs : List Value) (ns : List Int),
      Ground q loose [] XP w s₀ mg mb s₁.heap → YP w s₁.heap →
      s₁.heap.get? fa = some o → o.data = .func (docDef d.name d.params d.body d.scope pm cd doc) → s₁.heap.CodeRec cd d.name → mg d.name = some (.ref fa) →
      s₁.heap.get? a = some { cls := .type "list", data := .seq vs.toArray } → IntsAre vs ns → ns.length ≤ n → s₁.gens = #[] →
      codeAny (model l.prog w) callerA (.call (.ref fa) ⟨[.ref a], []⟩) (fun r s' => r = .ok (.ret (.bool true)) ∧ OldK s₁.heap s'.heap ∧ s'.os = s₁.os ∧ AllBare s'.gens) s₁) :
    WalkO q loose XP YP l.row.toRowW d [] (fun f vs => PySem.call f vs) := by
  intro w s₀ s₁ mg mb G Y fa o pm cd doc dV kV ho hd hcd hD hmg hg args vals as hpre hlay hrd hwl hlo
  obtain rfl : dV = .none := Dflts.none hD hdf
  obtain rfl : kV = .none := Dflts.noKw hD
  obtain ⟨a, vs, ns, rfl, rfl, hobj, hints, hlen⟩ := script_of hn hpre hwl
  refine enter_call (codeAny_mono (call w s₀ s₁ mg mb fa o pm cd doc a vs ns G Y ho (fd_plain hd) hcd hmg hobj hints hlen hg) fun r s' hq => ?_)
  obtain ⟨rfl, h2, h3, h4⟩ := hq
  exact ⟨.inl ⟨.bool true, .bool true, [], rfl, fun _ => rfl, .bool true, post_true l _, fun _ => ⟨List.Pairwise.nil, fun _ hm => (nomatch hm)⟩⟩, h2, h3, h4⟩
section
variable {prog : Program} {w : World} {A : Around} {E : Value → Shared → Prop} {s : Shared} {K : Frag}
end
end Att
namespace L2
open PySem PySem.Spec PyProof.Rows
theorem vals_ints : ∀ {vs : List Value} {ns : List Int}, IntsAre vs ns → Vals (ns.map V.int) vs
  | _, _, .nil => .nil
  | _, _, .cons n t h => .cons ⟨t, rfl⟩ (vals_ints h)
noncomputable def Only (H : Hp) : Prop := ∀ b, H b = none ∨ ∃ o xs, H b = some (.frz o (.lst xs))
theorem law_call {P : Program} {w : World} {K : PySem.W.Frag} {mg mb : Str → Option Value} {CX : CXT} {k : Nat} {fa a : Addr} {fd : FuncData} {x : Str} {sp : Sp} {s₁ : Shared} {vs : List Value} {ns : List Int}
    (KX : K.In s₁.heap) (hns : s₁.heap.Ns mainGlobals mg) (hb : s₁.heap.Ns builtinsNs mb) (hbb : ∀ x : Str, x ≠ "__name__" → mb x = bootBuiltins x) (hlim : s₁.heap.NoLimit) (hg : s₁.gens = #[])
    (ha : s₁.heap.get? a = some { cls := .type "list", data := .seq vs.toArray }) (hi : IntsAre vs ns) (hl : ns.length ≤ sizeLine) (hr : Room k callerA)
    (F : ∀ base : Heap, K.In base → base.Ns mainGlobals mg → FnOk P w K mg base CX k fa fd [x] sp) (hbind : ∀ (s : Shared) (u : Value), BindsTo s fd ⟨[u], []⟩ [(x, u)])
    (hsp : ∀ H : Hp, Only H → SqL K H a (ns.map V.int) → sp [.ref a] H (fun v _ => v = .bl true) fun _ _ _ => False)
    (hCX : ∀ H e s', CX [] H s₁ (fun _ _ _ => False) e s' → False) :
    codeAny (model P w) callerA (.call (.ref fa) ⟨[.ref a], []⟩) (fun r s' => r = .ok (.ret (.bool true)) ∧ OldK s₁.heap s'.heap ∧ s'.os = s₁.os ∧ AllBare s'.gens) s₁ := by
  have rv := vals_ints hi
  have lenV := hi.length
  have core : ∀ H : Hp, Only H → SqL K H a (ns.map V.int) → HOk P w H s₁.heap → (∀ b, H b ≠ none → b = a) → (H a ≠ none → K.lookup a = none) →
      codeAny (model P w) callerA (.call (.ref fa) ⟨[.ref a], []⟩) (fun r s' => r = .ok (.ret (.bool true)) ∧ OldK s₁.heap s'.heap ∧ s'.os = s₁.os ∧ AllBare s'.gens) s₁ := by
    intro H hO hS hok hA hK
    have base_of : ∀ {b : Addr} {o : Obj}, s₁.heap.get? b = some o → H b = none → (hidT s₁.heap H).get? b = some o := fun e n => hidT_get e n
    have noA : ∀ {b : Addr} {o : Obj} {es : Array DictEntry} {ep : Nat}, s₁.heap.get? b = some o → o.data = .dict es ep → H b = none := fun {b o es ep} e d => by
      cases q : H b with
      | none => rfl
      | some u =>
        have e' : b = a := hA b (by rw [q]; simp)
        subst e'
        rw [ha] at e; cases e
        have d' : Data.seq vs.toArray _ = Data.dict es ep := d
        cases d'
    have nsK : ∀ {b : Addr} {m : Str → Option Value}, s₁.heap.Ns b m → (hidT s₁.heap H).Ns b m := fun {b m} ⟨o, es, ep, e, d, r⟩ => ⟨o, es, ep, base_of e (noA e d), d, r⟩
    have hKb : K.In (hidT s₁.heap H) := fun b o e => base_of (KX b o e) (by
      cases q : H b with
      | none => rfl
      | some u =>
        have e' : b = a := hA b (by rw [q]; simp)
        subst e'
        rw [hK (by rw [q]; simp)] at e; cases e)
    have hM : Mod K mg (hidT s₁.heap H) := ⟨hKb, nsK hns, ⟨mb, nsK hb, hbb⟩, let ⟨mc, h1, h2⟩ := hlim; ⟨mc, nsK h1, h2⟩⟩
    have e0 : Env0 P w K mg (hidT s₁.heap H) callerA [] s₁ H := ⟨rfl, hM, fun b o e => of_hidT e, Nat.le_of_eq (hidT_size _ _), trivial, fun b hb => absurd (show b ∈ ([] : List Addr) from hb) (by simp), hok, .of_eq hg⟩
    refine codeAny_mono ((F _ hKb (nsK hns)).run callerA [] s₁ H ⟨[.ref a], []⟩ [.ref a] [.ref a] _ _ hr e0 (hbind s₁ (.ref a)) (.cons rfl .nil) (hsp H hO hS)) fun r s' h => ?_
    cases r with
    | error e => exact (hCX H e s' h).elim
    | ok fl =>
      cases fl with
      | next => exact False.elim h
      | brk => exact False.elim h
      | cont => exact False.elim h
      | ret u =>
        obtain ⟨v, H', os, bare, un, hok', r', q⟩ := h
        have q' : v = .bl true := q
        subst q'
        obtain rfl : u = Value.bool true := r'
        refine ⟨rfl, OldK.of_keep fun b o e => ?_, os, bare⟩
        cases q : H b with
        | none => exact un.keep b o e q (by intro z; exact absurd (show b ∈ ([] : List Addr) from z) (by simp)) (by simp)
        | some u =>
          rcases hO b with z | ⟨ob, xs, z⟩
          · rw [q] at z; cases z
          · have z2 := un.frzs b ob _ z
            obtain ⟨e1, _⟩ := hok b _ z
            obtain ⟨e2, _⟩ := hok' b _ z2
            rw [e] at e1; cases e1
            exact e2
  cases hk : K.lookup a with
  | some o =>
    have e := KX a o hk
    rw [ha] at e
    cases e
    refine core (fun _ => none) (fun _ => .inl rfl) (.inr ⟨_, vs.toArray, _, hk, rfl, rfl, rfl, by rw [List.size_toArray, lenV]; exact hl, by simpa using rv⟩) (fun b u z => by have z' : (none : Option HO) = some u := z; cases z') (fun b z => absurd rfl z) fun z => absurd rfl z
  | none =>
    refine core (fun b => if b = a then some (.frz { cls := .type "list", data := .seq vs.toArray } (.lst (ns.map V.int))) else none) (fun b => ?_) (.inl (.inr ⟨{ cls := .type "list", data := .seq vs.toArray }, if_pos rfl⟩)) (fun b u z => ?_) (fun b z => ?_) fun _ => hk
    · by_cases hb : b = a
      · exact .inr ⟨_, _, if_pos hb⟩
      · exact .inl (if_neg hb)
    · by_cases hb : b = a
      · have z' := (if_pos hb).symm.trans z
        cases z'
        subst hb
        exact ⟨ha, by rw [List.length_map]; exact hl, vs, _, rv, ha⟩
      · have z' := (if_neg hb).symm.trans z
        cases z'
    · by_cases hb : b = a
      · exact hb
      · exact absurd (if_neg hb) z
end L2
namespace L2
open PySem PySem.Spec PyProof.Rows
theorem walk_of {l : PySem.W.OpenLaw} {n k : Nat} {q : Program} {loose : List Str} {XP : (Str → Option Value) → Heap → Prop} {YP : World → Heap → Prop} {d : DefRec} {K : Params → PySem.W.Frag} {CX : World → CXT} {sp : World → Sp} {x : Str}
    (hn : l.most = some n) (hn2 : n ≤ sizeLine) (hdf : d.params.defaults = []) (hr : Room k callerA)
    (hY : ∀ (w : World) (h : Heap), YP w h → (K w.params).In h)
    (F : ∀ (w : World) (mg : Str → Option Value) (fa : Addr) (h : Heap), (K w.params).In h → h.Ns mainGlobals mg → mg d.name = some (.ref fa) →
      ∃ fd : FuncData, (∀ (s : Shared) (u : Value), BindsTo s fd ⟨[u], []⟩ [(x, u)]) ∧
        ∀ base : Heap, (K w.params).In base → base.Ns mainGlobals mg → FnOk l.prog w (K w.params) mg base (CX w) k fa fd [x] (sp w))
    (hsp : ∀ (w : World) (H : Hp) (a : Addr) (ns : List Int), ns.length ≤ n → Only H → SqL (K w.params) H a (ns.map V.int) → sp w [.ref a] H (fun v _ => v = .bl true) fun _ _ _ => False)
    (hCX : ∀ (w : World) (H : Hp) (s : Shared) (e : Value) (s' : Shared), CX w [] H s (fun _ _ _ => False) e s' → False) :
    PySem.W.WalkO q loose XP YP l.row.toRowW d [] (fun f vs => PySem.call f vs) := by
  refine Att.attach_call hn hdf fun w s₀ s₁ mg mb fa o pm cd doc a vs ns G Y ho hd hcd hmg hobj hints hlen hg => ?_
  have KX := hY w _ Y
  obtain ⟨fd, hb, hF⟩ := F w mg fa _ KX G.T.g hmg
  exact law_call KX G.T.g G.T.b G.T.builtins G.T.nolimit hg hobj hints (Nat.le_trans hlen hn2) hr hF hb (fun H hO hS => hsp w H a ns hlen hO hS) fun H e s' => hCX w H s₁ e s'
end L2
/- THE LAST THEOREM (shape; LID, My.* are yours):
   My.Adr: a structure of the addresses that your layer names (classes, functions); My.Txt K t: a structure (Prop) of the equations over K;
   My.txt_mk : {K} {implicit addresses ..} (e1 : nsIn K mainGlobals "law" = some (some (.ref f))) (e2 : K.lookup f = some ⟨oc, od, .func (fnOf "law" "law" params body scope dV kV doc pm an cdv ct), sl⟩) (e3 : codeIn K cdv "law" = true) .. : ∃ t, My.Txt K t
set_option maxRecDepth 100000 in
set_option maxHeartbeats 0 in
theorem PySem.Challenge.cw_LID_holds : PySem.Challenge.rw_LID.Holds := by
  w_on; o_law; k_head; (case hw => w_witness2)
  k_fill
  refine L2.walk_of (l := PySem.Challenge.rw_LID) (n := 63) (k := 40) (x := "script") (CX := fun w => ..) (sp := fun _ => My.sp_law) rfl (by decide) rfl ⟨rfl, by decide, by decide⟩ (fun w h Y => PySem.W.kIn_of Y) ?F ?S ?C
  case F =>
    intro w mg fa h KX G hmg
    have T : ∃ t, My.Txt (L2.KOf KX) t := by
      dsimp only [L2.KOf]                          -- K must stand as «<heap const> w.params» for k_is
      refine' My.txt_mk ?e1 ?e2 ?e3 ..
      (case e1 => PySem.W.k_is)                    -- in the order: a name -> its address -> its object -> its parts
      (case e2 => PySem.W.k_is)
      ..
    obtain ⟨t, T⟩ := T
    have e0 := hmg.symm.trans (PySem.W.mg_of KX G T.law)
    cases e0                                       -- fa is the law's own address
    exact ⟨_, fun s u => .of_eq rfl, fun base kb nb => My.law_fn T kb nb⟩     -- if «.of_eq rfl» comes too early: refine' ⟨_, ?b, fun base kb nb => My.law_fn T kb nb⟩; exact fun s u => .of_eq rfl
  case S => exact fun w H a ns hl hO hS => ..
  case C => exact ..
(the tactic k_is has no namespace: write k_is) -/
namespace L2
open PySem PySem.Spec PyProof.Rows
noncomputable def inClass (s : Stmt) (j : Nat) : Stmt := match s with
  | .ClassDef _ _ _ body _ _ _ _ _ _ _ => body.getD j (.Pass ⟨0, 0, 0, 0⟩)
  | _ => .Pass ⟨0, 0, 0, 0⟩
noncomputable def defArgs (s : Stmt) : Arguments := match s with
  | .FunctionDef _ a _ _ _ _ _ _ _ _ => a
  | _ => { posonlyargs := [], args := [], vararg := none, kwonlyargs := [], kw_defaults := [], kwarg := none, defaults := [] }
noncomputable def defBody (s : Stmt) : List Stmt := match s with
  | .FunctionDef _ _ b _ _ _ _ _ _ _ => b
  | _ => []
noncomputable def defScope (s : Stmt) : Scope := match s with
  | .FunctionDef _ _ _ _ _ _ sc _ _ _ => sc
  | _ => { kind := .function, names := [], isGenerator := false, isCoroutine := false }
noncomputable abbrev CX0 : CXT := fun _ _ _ _ _ _ => False
noncomputable abbrev E0 : XK := fun _ _ _ => False
theorem pass0 {X : Cx} : Passes CX0 X E0 := fun _ _ _ _ _ _ _ h => h.elim
structure Fun (K : PySem.W.Frag) (x qual : Str) (st : Stmt) (f : Addr) (fd : FuncData) : Prop where
  ex : ∃ (oc : Value) (od : Option Addr) (kV doc pm : Value) (an : Option Addr) (cdv ct : Value) (osl : Array (Option Value)),
    fd = PySem.W.fnOf x qual (defArgs st) (defBody st) (defScope st) .none kV doc pm an cdv ct ∧ K.lookup f = some ⟨oc, od, .func fd, osl⟩ ∧ PySem.W.codeIn K cdv qual = true
  kp : PySem.W.keepIn K (.ref f) = true
section
variable {P : Program} {w : World} {K : PySem.W.Frag} {mg : Str → Option Value} {base : Heap}
theorem Fun.ok {x qual : Str} {st : Stmt} {f : Addr} {fd : FuncData} {N ps : List Str} {k : Nat} {sp : Sp} (F : Fun K x qual st f fd) (S : FnScope N ps (defScope st)) (len : ∀ vs H Q E, sp vs H Q E → vs.length = ps.length)
    (hbody : ∀ (cdv : Value) (A : Around) (outer : List Env) (s : Shared) (H : Hp) (vs : List V) (Q : VK) (E : XK), Room k (A.deeper (envOfC qual (defScope st) s.heap.objs.size f cdv)) → sp vs H Q E →
      ∃ t, PSs (cxOf CX0 P w K mg base N qual (defScope st) f cdv A outer s H E).nox (defBody st) t ∧ t { nx := fun _ H' => Q .non H', rt := Q } (start N vs) H) : FnOk P w K mg base CX0 (k + 1) f fd ps sp := by
  obtain ⟨oc, od, kV, doc, pm, an, cdv, ct, osl, rfl, lk, hcd⟩ := F.ex
  refine fn_of lk hcd S len fun A outer s H vs Q E hr hsp => ?_
  obtain ⟨t, h, q⟩ := hbody cdv A outer s H vs Q E hr hsp
  exact ⟨t, h.nox, q⟩
theorem Fun.binds {x qual : Str} {st : Stmt} {f : Addr} {fd : FuncData} {ps : List Str} (F : Fun K x qual st f fd)
    (h : ∀ (kV doc pm : Value) (an : Option Addr) (cdv ct : Value) (us : List Value), us.length = ps.length → bindArgs (PySem.W.fnOf x qual (defArgs st) (defBody st) (defScope st) .none kV doc pm an cdv ct) ⟨us, []⟩ = pure (ps.zip us)) : Binds K fd ps [] := by
  obtain ⟨oc, od, kV, doc, pm, an, cdv, ct, osl, rfl, lk, hcd⟩ := F.ex
  exact .all (h kV doc pm an cdv ct)
theorem fun_mk {x qual : Str} {st : Stmt} {f : Addr} {oc : Value} {od an : Option Addr} {osl : Array (Option Value)} {kV doc pm cdv ct : Value} (l : K.lookup f = some ⟨oc, od, .func (PySem.W.fnOf x qual (defArgs st) (defBody st) (defScope st) .none kV doc pm an cdv ct), osl⟩)
    (c : PySem.W.codeIn K cdv qual = true) (k : PySem.W.keepIn K (.ref f) = true) : Fun K x qual st f (PySem.W.fnOf x qual (defArgs st) (defBody st) (defScope st) .none kV doc pm an cdv ct) := ⟨⟨oc, od, kV, doc, pm, an, cdv, ct, osl, rfl, l, c⟩, k⟩
end
theorem hu_of {A : Around} {k : Nat} (hr : Room k A) : A.units + 1 < cLine := Nat.lt_of_le_of_lt (Nat.add_le_add_left (by decide : 1 ≤ 64) _) hr.units
section
variable {X : Cx}
theorem pv (i : Nat) {x : Str} {pos : Pos} (hN : X.N[i]? = some x := by rfl) (hv : Vis X.env.scope x := by first | exact Or.inl rfl | exact Or.inr (Or.inl rfl) | exact Or.inr (Or.inr rfl)) (hd : (x == ("__debug__" : Str)) = false := by decide)
    (hcd : (x == ("__classdict__" : Str)) = false := by decide) : PE X (.Name x pos) (tVar i) := pe_var hN hv hd hcd
end
theorem iteF {A B : Prop} (h : B) : if false = true then A else B := by
  rw [if_neg Bool.false_ne_true]
  exact h
theorem iteT {A B : Prop} (h : A) : if true = true then A else B := by
  rw [if_pos rfl]
  exact h
noncomputable def Same (H H' : Hp) : Prop := ∀ b o, H b = some o → H' b = some o
theorem Same.refl (H : Hp) : Same H H := fun _ _ h => h
theorem Same.trans {H H1 H2 : Hp} (a : Same H H1) (b : Same H1 H2) : Same H H2 := fun c o h => b c o (a c o h)
theorem Same.free {H H' : Hp} (e : Same H H') {l : Addr} (h : H' l = Option.none) : H l = Option.none := by
  cases q : H l with
  | none => rfl
  | some o =>
    rw [e l o q] at h
    cases h
theorem Same.seq {K : PySem.W.Frag} {H H' : Hp} {a : Addr} {xs : List V} (e : Same H H') (h : SqL K H a xs) : SqL K H' a xs := by
  rcases h with (h | ⟨o, h⟩) | h
  · exact .inl (.inl (e _ _ h))
  · exact .inl (.inr ⟨o, e _ _ h⟩)
  · exact .inr h
end L2
set_option maxHeartbeats 4000000
namespace L2
open PySem PySem.Spec PyProof.Rows
noncomputable def addFree (env : Env) : List (Str × NameKind) → List (Str × Addr) → List (Str × Addr)
  | [], acc => acc
  | (n, k) :: r, acc => addFree env r (if k == .free then (n, (env.cells.lookup n).getD 0) :: acc else acc)
theorem closure_go {env : Env} (f : Str × NameKind → List (Str × Addr) → Sem (ForInStep (List (Str × Addr))))
    (hf : ∀ n k c, f (n, k) c = if k == .free then (do let a ← cellOf env n; pure (.yield ((n, a) :: c))) else pure (.yield c)) :
    ∀ (names : List (Str × NameKind)) (acc : List (Str × Addr)), (∀ p ∈ names, p.2 = .free → ∃ c, env.cells.lookup p.1 = some c) → forIn names acc f = pure (addFree env names acc)
  | [], acc, _ => by rw [List.forIn_nil]; rfl
  | (n, k) :: r, acc, h => by
    rw [List.forIn_cons, hf]
    have ih := closure_go f hf r
    have hr : ∀ p ∈ r, p.2 = .free → ∃ c, env.cells.lookup p.1 = some c := fun p hp => h p (List.mem_cons_of_mem _ hp)
    unfold addFree
    cases hk : k == NameKind.free with
    | true =>
      obtain ⟨c, hc⟩ := h (n, k) List.mem_cons_self (by simpa using hk)
      have hc' : env.cells.lookup n = some c := hc
      simp only [if_true, cellOf, hc', pure_bind, Option.getD_some]
      exact ih _ hr
    | false =>
      simp only [Bool.false_eq_true, if_false, pure_bind]
      exact ih _ hr
theorem closureFor_eq {scope : Scope} {env : Env} (h : ∀ p ∈ scope.names, p.2 = .free → ∃ c, env.cells.lookup p.1 = some c) : closureFor scope env = pure (addFree env scope.names []) := by
  simp only [closureFor]
  rw [closure_go (env := env) _ (fun n k c => by cases hk : k == NameKind.free <;> simp [hk]) scope.names [] h]
  rfl
theorem addFree_lookup {env : Env} {x : Str} : ∀ (names : List (Str × NameKind)) (acc : List (Str × Addr)),
    (addFree env names acc).lookup x = if (x, NameKind.free) ∈ names then some ((env.cells.lookup x).getD 0) else acc.lookup x
  | [], acc => by simp [addFree]
  | (n, k) :: r, acc => by
    unfold addFree
    rw [addFree_lookup r]
    by_cases hr : (x, NameKind.free) ∈ r
    · rw [if_pos hr, if_pos (List.mem_cons_of_mem _ hr)]
    · rw [if_neg hr]
      by_cases hk : k = NameKind.free
      · subst hk
        by_cases hx : x = n
        · subst hx
          have hp : (x, NameKind.free) ∈ (x, NameKind.free) :: r := List.mem_cons_self
          rw [if_pos hp]
          simp [List.lookup_cons]
        · have hb : (x == n) = false := beq_eq_false_iff_ne.mpr hx
          have hn : ¬ (x, NameKind.free) ∈ (n, NameKind.free) :: r := fun hm => by
            rcases List.mem_cons.mp hm with e | e
            · exact hx (Prod.mk.inj e).1
            · exact hr e
          rw [if_neg hn]
          simp [List.lookup_cons, hb]
      · have hkb : (k == NameKind.free) = false := by simpa using hk
        have hn : ¬ (x, NameKind.free) ∈ (n, k) :: r := fun hm => by
          rcases List.mem_cons.mp hm with e | e
          · exact hk (Prod.mk.inj e).2.symm
          · exact hr e
        rw [if_neg hn]
        simp [hkb]
theorem addFree_some {env : Env} {x : Str} {c : Addr} {names : List (Str × NameKind)} (h : ∀ p ∈ names, p.2 = .free → ∃ c, env.cells.lookup p.1 = some c) (e : (addFree env names []).lookup x = some c) : env.cells.lookup x = some c := by
  rw [addFree_lookup] at e
  split at e
  · rename_i hm
    obtain ⟨c', hc⟩ := h _ hm rfl
    have hc' : env.cells.lookup x = some c' := hc
    rw [hc'] at e ⊢
    exact e
  · simp at e
theorem addFree_has {env : Env} {x : Str} {c : Addr} {names : List (Str × NameKind)} (hm : (x, NameKind.free) ∈ names) (e : env.cells.lookup x = some c) : (addFree env names []).lookup x = some c := by
  rw [addFree_lookup, if_pos hm, e]
  rfl
theorem cellsFrom_app : ∀ (names : List (Str × NameKind)) (n : Nat) (acc : List (Str × Addr)), cellsFrom n names acc = cellsFrom n names [] ++ acc
  | [], _, _ => rfl
  | (name, kind) :: r, n, acc => by
    unfold cellsFrom
    split
    · rw [cellsFrom_app r (n + 1) ((name, n) :: acc), cellsFrom_app r (n + 1) [(name, n)]]
      simp
    · exact cellsFrom_app r n acc
theorem cellsFrom_name : ∀ (names : List (Str × NameKind)) (n : Nat) {x : Str} {c : Addr}, (x, c) ∈ cellsFrom n names [] → (x, NameKind.cell) ∈ names
  | [], _, _, _, h => by simp [cellsFrom] at h
  | (name, kind) :: r, n, x, c, h => by
    unfold cellsFrom at h
    split at h
    · rename_i hk
      rw [cellsFrom_app] at h
      rcases List.mem_append.mp h with h | h
      · exact List.mem_cons_of_mem _ (cellsFrom_name r _ h)
      · simp at h
        have hk' : kind = NameKind.cell := by simpa using hk
        rw [h.1, hk']
        exact List.mem_cons_self
    · exact List.mem_cons_of_mem _ (cellsFrom_name r _ h)
theorem lookup_app {α : Type} {x : Str} : ∀ (l r : List (Str × α)), (l ++ r).lookup x = (l.lookup x).or (r.lookup x)
  | [], r => by simp
  | (n, v) :: l, r => by
    rw [List.cons_append, List.lookup_cons, List.lookup_cons]
    cases x == n with
    | true => rfl
    | false => exact lookup_app l r
theorem wpAny_blockEnv {M : Model} {A : Around} {E : Value → Shared → Prop} {s : Shared} {scope : Scope} {env : Env} {cl : List (Str × Addr)} {Q : Env → Shared → Prop}
    (h : Q { scope, locals := s.heap.objs.size, globals := env.globals, cells := cellsFrom (s.heap.objs.size + 1) scope.names cl, qual := env.qual, func := none, code := env.code, frame := env.frame, builtins := env.builtins }
      { s with heap := pushCells (s.heap.push { cls := .type "dict", data := .dict #[] }) scope.names }) :
    wpAny M A (newFunctionEnv scope env.globals cl [] env.qual none .none (some env)) Q E s := by
  simp only [newFunctionEnv, Option.isSome_some, if_true]
  refine wpAny_bind (wpAny_alloc ?_)
  refine wpAny_bind (wpAny_layCells _ (fun name kind cells => by cases hkc : kind == NameKind.cell <;> simp [hkc]) _ _ _ _ ?_)
  rw [show ({ s with heap := s.heap.push { cls := .type "dict", data := .dict #[] } } : Shared).heap.objs.size = s.heap.objs.size + 1 from Heap.size_push ..]
  rw [List.forIn_nil]
  exact wpAny_bind (wpAny_pure (wpAny_pure h))
structure CScope (X : Cx) (sc : Scope) (own : List Str) (fr : List (Str × Nat)) : Prop where
  kind : sc.kind = .function
  loc : ∀ x ∈ sc.names, x.2 = .local → sc.names.lookup x.1 = some .local
  nd : (own ++ fr.map (·.1)).Nodup
  frk : ∀ p ∈ sc.names, p.2 = .free → X.env.scope.names.lookup p.1 = some .cell ∨ X.env.scope.names.lookup p.1 = some .free
  fre : ∀ p ∈ fr, (p.1, NameKind.free) ∈ sc.names ∧ X.N[p.2]? = some p.1
  one : (sc.names.map (·.1)).Nodup
noncomputable def compCx (X : Cx) (sc : Scope) (own : List Str) (fr : List (Str × Nat)) (s : Shared) (H : Hp) (pins : List (Addr × Obj)) (ex : List Addr) : Cx :=
  { X with
    N := own ++ fr.map (·.1), s₀ := s, H₀ := H,
    env := compEnvC sc (cellsFrom (s.heap.objs.size + 1) sc.names (addFree X.env sc.names [])) s.heap.objs.size X.env,
    outer := X.stack, stack := X.stack, ex := ex, fn := fun x => sc.names.lookup x == some .cell, pn := X.pn ++ pins, xe := fun _ _ => False }
noncomputable def compSt (n : Nat) (fr : List (Str × Nat)) (σ : St) : St := List.replicate n none ++ fr.map fun p => (σ[p.2]?).join
theorem relabel_look {env : Env} {x : Str} : ∀ (names : List (Str × NameKind)),
    (names.map fun (n, k) => if (k == NameKind.free && env.scope.kind == .function && env.kindOf n == some .cell) then (n, NameKind.cell) else (n, k)).lookup x =
      (names.lookup x).map fun k => if (k == NameKind.free && env.scope.kind == .function && env.kindOf x == some .cell) then NameKind.cell else k
  | [] => rfl
  | (n, k) :: r => by
    have ih := @relabel_look env x r
    have e : (if (k == NameKind.free && env.scope.kind == .function && env.kindOf n == some .cell) = true then (n, NameKind.cell) else (n, k)) = (n, if (k == NameKind.free && env.scope.kind == .function && env.kindOf n == some .cell) = true then NameKind.cell else k) := by split <;> rfl
    show List.lookup x ((if (k == NameKind.free && env.scope.kind == .function && env.kindOf n == some .cell) = true then (n, NameKind.cell) else (n, k)) :: _) = _
    rw [e, List.lookup_cons, List.lookup_cons]
    cases hx : x == n with
    | true =>
      have ex : x = n := beq_iff_eq.mp hx
      subst ex
      rfl
    | false => exact ih
theorem lookup_of_mem {α : Type} {x : Str} {v : α} : ∀ {l : List (Str × α)}, (l.map (·.1)).Nodup → (x, v) ∈ l → l.lookup x = some v
  | [], _, h => by simp at h
  | (n, w) :: r, nd, h => by
    rw [List.map_cons] at nd
    obtain ⟨n1, n2⟩ := List.nodup_cons.mp nd
    rcases List.mem_cons.mp h with e | h2
    · cases e
      simp [List.lookup_cons]
    · have : x ≠ n := fun e => n1 (List.mem_map.mpr ⟨(x, v), h2, e⟩)
      have hb : (x == n) = false := beq_eq_false_iff_ne.mpr this
      rw [List.lookup_cons, hb]
      exact lookup_of_mem n2 h2
section
variable {X : Cx} {sc : Scope} {own : List Str} {fr : List (Str × Nat)} {pins : List (Addr × Obj)} {σ : St} {H : Hp} {s : Shared} {fp : List Addr}
theorem CScope.cells (S : CScope X sc own fr) (I : Inv X pins σ H s) : ∀ p ∈ sc.names, p.2 = .free → ∃ c, X.env.cells.lookup p.1 = some c := fun p hp hk => I.ok.has p.1 (S.frk p hp hk)
theorem block_cell (S : CScope X sc own fr) (I : Inv X pins σ H s) {x : Str} {c : Addr} (e : (cellsFrom (s.heap.objs.size + 1) sc.names (addFree X.env sc.names [])).lookup x = some c) :
    ((x, NameKind.cell) ∈ sc.names ∧ (x, c) ∈ cellsFrom (s.heap.objs.size + 1) sc.names [] ∧ s.heap.objs.size + 1 ≤ c) ∨ (X.env.cells.lookup x = some c ∧ c < s.heap.objs.size) := by
  rw [cellsFrom_app, lookup_app] at e
  have ok := cellsFrom_ok sc.names (s.heap.push { cls := .type "dict", data := .dict #[] }) (s.heap.objs.size + 1) [] ⟨fun _ _ hm => (nomatch hm), List.Pairwise.nil⟩ (by rw [Heap.size_push]; exact Nat.le_refl _)
  rw [Heap.size_push] at ok
  cases q : (cellsFrom (s.heap.objs.size + 1) sc.names []).lookup x with
  | some c' =>
    rw [q] at e
    have e' : c' = c := Option.some.inj e
    subst e'
    have hm := PySem.mem_of_lookup q
    exact .inl ⟨cellsFrom_name _ _ hm, hm, (ok.empty x c' hm).2⟩
  | none =>
    rw [q] at e
    have e' : (addFree X.env sc.names []).lookup x = some c := e
    have e2 := addFree_some (S.cells I) e'
    obtain ⟨v, z⟩ := I.cell x c e2
    exact .inr ⟨e2, z.lt⟩
theorem block_inv (S : CScope X sc own fr) (I : Inv X pins σ H s) (hf : ∀ b ∈ fp, FpOk X pins H b) (hb : ∀ b ∈ fp, b < s.heap.objs.size) :
    Inv (compCx X sc own fr s H pins fp) [] (compSt own.length fr σ) H { s with heap := pushCells (s.heap.push { cls := .type "dict", data := .dict #[] }) sc.names } := by
  have ok := cellsFrom_ok sc.names (s.heap.push { cls := .type "dict", data := .dict #[] }) (s.heap.objs.size + 1) [] ⟨fun _ _ hm => (nomatch hm), List.Pairwise.nil⟩ (by rw [Heap.size_push]; exact Nat.le_refl _)
  rw [Heap.size_push] at ok
  have keep : ∀ b o, s.heap.get? b = some o → (pushCells (s.heap.push { cls := .type "dict", data := .dict #[] }) sc.names).get? b = some o := fun b o e => pushCells_keeps _ _ b o (Heap.get?_push_of_some _ e)
  have stk : ∀ b ∈ frs X.stack, b ∈ X.env.locals :: X.fs := I.stkSub
  have hfs : ∀ b ∈ fp, b ∉ frs X.stack := fun b hb z => by
    obtain ⟨_, f1, f2, _⟩ := hf b hb
    rcases List.mem_cons.mp (stk b z) with e | e
    · exact f1 e
    · exact f2 e
  have has : ∀ x, (sc.names.lookup x = some .cell ∨ sc.names.lookup x = some .free) → ∃ c, (cellsFrom (s.heap.objs.size + 1) sc.names (addFree X.env sc.names [])).lookup x = some c := fun x hx => by
    rw [cellsFrom_app, lookup_app]
    rcases hx with hx | hx
    · obtain ⟨c, hc⟩ := cell_has (n := s.heap.objs.size + 1) hx
      exact ⟨c, by rw [hc]; rfl⟩
    · have hm := PySem.mem_of_lookup hx
      obtain ⟨c, hc⟩ := S.cells I _ hm rfl
      cases q : (cellsFrom (s.heap.objs.size + 1) sc.names []).lookup x with
      | some c' => exact ⟨c', rfl⟩
      | none => exact ⟨c, addFree_has hm hc⟩
  have kindC : ∀ x, (compCx X sc own fr s H pins fp).env.kindOf x = (sc.names.lookup x).map fun k => if (k == NameKind.free && X.env.scope.kind == .function && X.env.kindOf x == some .cell) then NameKind.cell else k := fun x => relabel_look sc.names
  have isC : ∀ x, ((compCx X sc own fr s H pins fp).env.kindOf x = some .cell ∨ (compCx X sc own fr s H pins fp).env.kindOf x = some .free) → (sc.names.lookup x = some .cell ∨ sc.names.lookup x = some .free) := fun x hx => by
    rw [kindC] at hx
    cases q : sc.names.lookup x with
    | none => rw [q] at hx; simp at hx
    | some k =>
      rw [q] at hx
      simp only [Option.map_some, Option.some.injEq] at hx
      split at hx
      · rename_i hk
        have : k = NameKind.free := by
          have := (Bool.and_eq_true_iff.mp (Bool.and_eq_true_iff.mp hk).1).1
          simpa using this
        exact .inr (by rw [this])
      · rcases hx with e | e
        · exact .inl (by rw [e])
        · exact .inr (by rw [e])
  refine ⟨⟨I.ok.mod, S.kind, I.ok.glob, I.ok.blt, Nat.le_refl _, fun x y c h1 h2 => ?_, fun x hx => has x (isC x hx), fun x c hx h => ?_, I.ok.hd, I.ok.frames, .inl rfl, fun b hbb => ⟨?_, fun x c h => ?_⟩, I.bs, Nat.le_trans I.ok.bsz I.sz, fun b o e hbb => ?_, fun b hbb => hfs b hbb, I.stack, I.stkFree⟩,
    rfl, I.bare, Un.kept keep, ⟨fun _ => none, (Heap.Ns.new s.heap (.type "dict")).keeps (pushCells_keeps _ _), fun i x v h1 h2 h3 => ?_⟩, fun x c h => ?_, I.hok.fresh (Nat.le_refl _), fun x c h => ?_, fun p hp => ?_, I.hok.kept keep, ?_⟩
  · -- two names, one cell
    rcases block_cell S I h1 with ⟨k1, m1, l1⟩ | ⟨e1, l1⟩ <;> rcases block_cell S I h2 with ⟨k2, m2, l2⟩ | ⟨e2, l2⟩
    · exact name_of_addr ok.apart m1 m2
    · exact absurd (Nat.lt_of_lt_of_le l2 (Nat.le_of_succ_le l1)) (Nat.lt_irrefl _)
    · exact absurd (Nat.lt_of_lt_of_le l1 (Nat.le_of_succ_le l2)) (Nat.lt_irrefl _)
    · exact I.ok.inj x y c e1 e2
  · rcases block_cell S I h with ⟨k1, m1, l1⟩ | ⟨e1, l1⟩
    · exact Nat.le_of_succ_le l1
    · have hx0 : (sc.names.lookup x == some .cell) = true := hx
      have hx' : sc.names.lookup x = some .cell := by simpa using hx0
      have hx2 : (cellsFrom (s.heap.objs.size + 1) sc.names []).lookup x = some c ∨ False := by
        obtain ⟨c', hc'⟩ := cell_has (n := s.heap.objs.size + 1) hx'
        have h' : (cellsFrom (s.heap.objs.size + 1) sc.names (addFree X.env sc.names [])).lookup x = some c := h
        rw [cellsFrom_app, lookup_app, hc'] at h'
        exact .inl (by rw [hc']; exact h')
      rcases hx2 with q | q
      · exact Nat.le_of_succ_le (ok.empty x c (PySem.mem_of_lookup q)).2
      · exact q.elim
  · exact Nat.ne_of_lt (hb b hbb)
  · rcases block_cell S I h with ⟨k1, m1, l1⟩ | ⟨e1, l1⟩
    · intro z
      exact absurd (Nat.lt_of_lt_of_le (hb b hbb) (Nat.le_of_succ_le (z ▸ l1))) (Nat.lt_irrefl _)
    · exact (hf b hbb).2.2.2.2.1 x c e1
  · -- an object of the base is no iterator of ours
    obtain ⟨_, _, _, f3, _⟩ := hf b hbb
    rcases f3 with z | z
    · exact I.ok.noex b o e z
    · exact absurd (Nat.lt_of_lt_of_le (Heap.lt_size (I.ok.bs b o e).1) z) (Nat.lt_irrefl _)
  · -- an outer name seen from within
    have hi : ¬ i < own.length := fun hlt => by
      unfold compSt at h2
      rw [List.getElem?_append_left (by simpa using hlt), List.getElem?_replicate] at h2
      split at h2 <;> cases h2
    have h1' : (fr.map (·.1))[i - own.length]? = some x := by
      have := h1
      rw [show (compCx X sc own fr s H pins fp).N = own ++ fr.map (·.1) from rfl, List.getElem?_append_right (by omega)] at this
      exact this
    have h2' : (fr.map fun p => (σ[p.2]?).join)[i - own.length]? = some (some v) := by
      unfold compSt at h2
      rw [List.getElem?_append_right (by simp; omega)] at h2
      simpa using h2
    rw [List.getElem?_map] at h1' h2'
    cases q : fr[i - own.length]? with
    | none => rw [q] at h1'; cases h1'
    | some p =>
      rw [q] at h1' h2'
      obtain ⟨x', j⟩ := p
      have ex : x' = x := Option.some.inj h1'
      subst ex
      have ej : (σ[j]?).join = some v := Option.some.inj h2'
      obtain ⟨hfree, hN⟩ := S.fre _ (List.mem_of_getElem? q)
      have hj : σ[j]? = some (some v) := by
        cases r : σ[j]? with
        | none => rw [r] at ej; cases ej
        | some w => rw [r] at ej; simp at ej; rw [ej]
      have hk := S.frk _ hfree rfl
      obtain ⟨m, hm, hl⟩ := I.loc
      obtain ⟨u, ru, lk⟩ := hl j x' v hN hj (by rcases hk with z | z; · exact .inr (.inl z)
                                                · exact .inr (.inr z))
      refine ⟨u, ru, .inr ?_⟩
      rcases lk with ⟨z, _⟩ | ⟨z, c, hc, ic⟩
      · have z' : X.env.scope.names.lookup x' = some .local := z
        rcases hk with y | y <;> (have y' : X.env.scope.names.lookup x' = _ := y; rw [z'] at y'; cases y')
      · refine ⟨?_, c, ?_, ic.keeps keep⟩
        · have hlk : sc.names.lookup x' = some .free := lookup_of_mem S.one hfree
          rw [kindC, hlk]
          simp only [Option.map_some]
          split
          · exact .inl rfl
          · exact .inr rfl
        · show (cellsFrom (s.heap.objs.size + 1) sc.names (addFree X.env sc.names [])).lookup x' = some c
          rw [cellsFrom_app, lookup_app]
          have hno : (cellsFrom (s.heap.objs.size + 1) sc.names []).lookup x' = none := by
            cases r : (cellsFrom (s.heap.objs.size + 1) sc.names []).lookup x' with
            | none => rfl
            | some c' =>
              have hmm := cellsFrom_name _ _ (PySem.mem_of_lookup r)
              have := lookup_of_mem S.one hmm
              rw [lookup_of_mem S.one hfree] at this
              cases this
          rw [hno]
          exact addFree_has hfree hc
  · rcases block_cell S I h with ⟨k1, m1, l1⟩ | ⟨e1, l1⟩
    · exact ⟨_, (ok.empty x c m1).1⟩
    · obtain ⟨v, z⟩ := I.cell x c e1
      exact ⟨v, z.keeps keep⟩
  · rcases block_cell S I h with ⟨k1, m1, l1⟩ | ⟨e1, l1⟩
    · exact I.hok.fresh (Nat.le_of_succ_le l1)
    · exact I.freeC x c e1
  · have hp' : p ∈ X.pn ++ pins := by simpa [compCx] using hp
    obtain ⟨e, n, ne, nf, d⟩ := I.pin p hp'
    refine ⟨keep _ _ e, n, Nat.ne_of_lt (Heap.lt_size e), fun z => ?_, d⟩
    rcases List.mem_cons.mp (stk _ z) with q | q
    · exact ne q
    · exact nf q
  · show (compSt own.length fr σ).length = (own ++ fr.map (·.1)).length
    unfold compSt
    simp
end
end L2
namespace L2
open PySem PySem.Spec PyProof.Rows
noncomputable def PIfs (X : Cx) (ifs : List Expr) (t : TT) : Prop :=
  ∀ (pins : List (Addr × Obj)) (s : Shared) (σ : St) (H : Hp) (Q : Bool → Hp → Prop), Inv X pins σ H s → t σ H Q →
    wpAny (model X.prog X.w) X.A (forIn ifs true fun c r => if r = true then do let ok ← isTrue c X.env (eval c X.env); pure (ForInStep.yield ok) else pure (ForInStep.yield r)) (TP X pins σ Q) X.xe s
noncomputable def tTrue : TT := fun _ H Q => Q true H
theorem pifs_nil {X : Cx} : PIfs X [] tTrue := fun _ _ _ H _ I h => wpAny_tests_nil ⟨H, I, h⟩
theorem pifs_one {X : Cx} {c : Expr} {t : TT} (h : PT X c t) : PIfs X [c] t := fun pins s σ H Q I hq => wpAny_tests_one (h pins s σ H Q I hq)
section
variable {prog : Program} {w : World} {A : Around} {R : Result → Shared → Prop} {s : Shared}
noncomputable abbrev FF : Value → Shared → Prop := fun _ _ => False
theorem codeAny_compLoop_any {elt target iter : Expr} {ifs : List Expr} {scope : Scope} {pos : Pos} {it acc : Value} {env : Env} (I : Nat → Shared → Prop)
    (turn : ∀ n s, I n s → wpAny (model prog w) A (pyNext it) (fun r s₁ => match r with
      | none => R (.ok .next) s₁
      | some v => wpAny (model prog w) A (letOwnedTupleGo target it v) (fun _ s₁' => wpAny (model prog w) A (assign target env v) (fun _ s₂ =>
          wpAny (model prog w) A (forIn ifs true fun c r => if r = true then do let ok ← isTrue c env (eval c env); pure (ForInStep.yield ok) else pure (ForInStep.yield r)) (fun ok s₃ =>
            if ok = true then wpAny (model prog w) A (eval elt env) (fun x s₄ =>
              wpAny (model prog w) A (call (.builtin "list.append") [acc, x]) (fun _ s₅ => ∃ m, m < n ∧ I m s₅) FF s₄) FF s₃
            else ∃ m, m < n ∧ I m s₃) FF s₂) FF s₁') FF s₁) FF s)
    (n : Nat) (h : I n s) :
    codeAny (model prog w) A (.compLoop (.ListComp elt [⟨target, iter, ifs, 0⟩] scope pos) 0 it acc env) R s := by
  refine codeAny_loop rfl I (fun n s hI => ?_) n h
  show wpAny _ A ((compTurn (.ListComp elt [⟨target, iter, ifs, 0⟩] scope pos) 0 it acc env).onRaise (fun x => do noteFrame x env; theTreesLotGoes x)) _ _ s
  refine wpAny_noted ?_
  rw [compTurn_list]
  refine wpAny_bind (wpAny_standAt (wpAny_bind (wpAny_mono (turn n s hI) (fun r s₁ h₁ => ?_) fun _ _ f => f.elim)))
  cases r with
  | none => exact wpAny_pure h₁
  | some v =>
    refine wpAny_bind (wpAny_mono h₁ (fun _ s₁' h₁' => ?_) fun _ _ f => f.elim)
    refine wpAny_bind (wpAny_mono h₁' (fun _ s₂ h₂ => wpAny_bind (wpAny_mono h₂ (fun ok s₃ h₃ => ?_) fun _ _ f => f.elim)) fun _ _ f => f.elim)
    cases ok with
    | false => exact wpAny_pure ⟨rfl, h₃⟩
    | true =>
      exact wpAny_bind (wpAny_bind (wpAny_mono h₃ (fun x s₄ h₄ => wpAny_bind (wpAny_mono h₄ (fun _ s₅ h₅ => wpAny_pure (wpAny_pure ⟨rfl, h₅⟩)) fun _ _ f => f.elim)) fun _ _ f => f.elim))
end
section
variable {X : Cx} {sc : Scope} {own : List Str} {fr : List (Str × Nat)} {pins : List (Addr × Obj)} {σ : St} {tg elt iter : Expr} {ifs : List Expr} {g : TG} {ti : TT} {te : TE} {pos : Pos}
noncomputable def rdComp (n : Nat) (fr : List (Str × Nat)) (g : TG) (ti : TT) (te : TE) (σ : St) (J : It) (H1 : Hp) (Q : VK) : Prop :=
  ∀ l, H1 l = none → ∃ W : Nat → Nat → List V → St → Hp → Prop, (∃ m, W 0 m [] (compSt n fr σ) (upd H1 l (.lst []))) ∧
    ∀ i m ys σ1 H, W i m ys σ1 H → (J.stop i H ∧ Q (.ref l) H) ∨
      (J.go i H ∧ ∀ x H', J.yld i H x H' → g x σ1 H' fun σ2 H2 => ti σ2 H2 fun b H3 =>
        if b = true then te σ2 H3 fun y H4 => H4 l = some (.lst ys) ∧ ys.length < sizeLine ∧ ∃ m', m' < m ∧ W (i + 1) m' (ys ++ [y]) σ2 (upd H4 l (.lst (ys ++ [y])))
        else ∃ m', m' < m ∧ W (i + 1) m' ys σ2 H3)
theorem block_run (S : CScope X sc own fr) (hc : X.calm = true)
    (hg : ∀ s H fp, PG (compCx X sc own fr s H pins fp) tg g) (ht : ∀ s H fp, PIfs (compCx X sc own fr s H pins fp) ifs ti) (he : ∀ s H fp, PE (compCx X sc own fr s H pins fp) elt te)
    {it : Addr} {fp : List Addr} {tn : Nat → Heap → Prop} {J : It} {H2 : Hp} {s2 : Shared} (I2 : Inv X pins σ H2 s2) (T : Turn X.prog X.w X.K tg J fp it tn) (st2 : tn 0 s2.heap) (f2 : ∀ b ∈ fp, FpOk X pins H2 b) {Q : VK}
    (rd : rdComp own.length fr g ti te σ J H2 Q) {RR : Value → Addr → Result → Shared → Prop} {E : Value → Shared → Prop}
    (fin : ∀ (l C : Addr) (s' : Shared) (H' : Hp), (∃ m, s'.heap.Ns C m) → Inv X pins σ H' s' → FpOk X pins H' C → Q (.ref l) H' → RR (.ref l) C (.ok .next) s') :
    wpAny (model X.prog X.w) X.A (newList []) (fun acc s3 => wpAny (model X.prog X.w) X.A (newFunctionEnv sc X.env.globals (addFree X.env sc.names []) [] X.env.qual none .none (some X.env)) (fun cenv s4 =>
      codeAny (model X.prog X.w) X.A (.compStart (.ListComp elt [⟨tg, iter, ifs, 0⟩] sc pos) 0 (.ref it) acc { cenv with scope := relabel sc X.env }) (RR acc cenv.locals) s4) E s3) E s2 := by
  refine wpAny_newObj_type (wpAny_blockEnv ?_)
  have I3 : Inv X pins σ (upd H2 s2.heap.objs.size (.lst [])) { s2 with heap := s2.heap.push { cls := .type "list", data := .seq ([] : List Value).toArray }, toks := s2.toks } := I2.lnew (its := []) .nil (Nat.zero_le _)
  have hlt : ∀ b ∈ fp, b < s2.heap.objs.size := fun b hb => by
    obtain ⟨o, e, _⟩ := T.obj _ _ st2 b hb
    exact Heap.lt_size e
  have hlt3 : ∀ b ∈ fp, b < (s2.heap.push { cls := .type "list", data := .seq ([] : List Value).toArray } : Heap).objs.size := fun b hb => by
    rw [Heap.size_push]; exact Nat.lt_succ_of_lt (hlt b hb)
  have f3 : ∀ b ∈ fp, FpOk X pins (upd H2 s2.heap.objs.size (.lst [])) b := fun b hb => ⟨by rw [upd_ne (Nat.ne_of_lt (hlt b hb))]; exact (f2 b hb).1, (f2 b hb).2⟩
  have B := block_inv (fp := fp) S I3 f3 hlt3
  generalize hs3 : ({ s2 with heap := s2.heap.push { cls := .type "list", data := .seq ([] : List Value).toArray }, toks := s2.toks } : Shared) = s3 at I3 B
  have hC : s3.heap.objs.size = (s2.heap.push { cls := .type "list", data := .seq ([] : List Value).toArray } : Heap).objs.size := by rw [← hs3]
  have hl3 : ∀ b ∈ fp, b < s3.heap.objs.size := fun b hb => by rw [hC]; exact hlt3 b hb
  have k34 : ∀ b o, s2.heap.get? b = some o → (pushCells (s3.heap.push { cls := .type "dict", data := .dict #[] }) sc.names).get? b = some o := fun b o e => by
    refine pushCells_keeps _ _ b o (Heap.get?_push_of_some _ ?_)
    rw [← hs3]
    exact Heap.get?_push_of_some _ e
  have st4 : tn 0 (pushCells (s3.heap.push { cls := .type "dict", data := .dict #[] }) sc.names) := T.keep _ _ _ st2 fun b _ o e => k34 b o e
  obtain ⟨W, ⟨m0, w0⟩, turn⟩ := rd s2.heap.objs.size (I2.hok.fresh (Nat.le_refl _))
  generalize hl : s2.heap.objs.size = l at *
  have hl' : s2.heap.objs.size = l := hl
  have stat : ∀ {H' : Hp}, (∀ b ∈ fp, H' b = none) → ∀ b ∈ fp, FpOk (compCx X sc own fr s3 (upd H2 l (.lst [])) pins fp) [] H' b := fun hn b hb => by
    refine ⟨hn b hb, (B.ok.exf b hb).1, B.ok.exfs b hb, .inl hb, (B.ok.exf b hb).2, fun p hp => ?_⟩
    have hp' : p ∈ X.pn ++ pins := by simpa [compCx] using hp
    exact (f2 b hb).2.2.2.2.2 p hp'
  have loop : codeAny (model X.prog X.w) X.A (.compLoop (.ListComp elt [⟨tg, iter, ifs, 0⟩] sc pos) 0 (.ref it) (.ref l) (compCx X sc own fr s3 (upd H2 l (.lst [])) pins fp).env) (RR (.ref l) s3.heap.objs.size)
      { s3 with heap := pushCells (s3.heap.push { cls := .type "dict", data := .dict #[] }) sc.names } := by
    refine codeAny_compLoop_any (fun n s' => ∃ i ys σ' H', Inv (compCx X sc own fr s3 (upd H2 l (.lst [])) pins fp) [] σ' H' s' ∧ tn i s'.heap ∧ (∀ b ∈ fp, H' b = none) ∧ W i n ys σ' H') ?_ m0
      ⟨0, [], _, _, B, st4, fun b hb => (f3 b hb).1, w0⟩
    rintro n s5 ⟨i, ys, σ5, H5, I5, st5, fr5, w5⟩
    rcases turn i n ys σ5 H5 w5 with ⟨stop, q⟩ | ⟨go, step⟩
    · refine thn (T.done (compCx X sc own fr s3 (upd H2 l (.lst [])) pins fp) rfl rfl rfl hc i [] s5 σ5 H5 FF I5 (stat fr5) st5 stop) fun r s6 ⟨hr, I6⟩ => ?_
      subst hr
      have IX : Inv X pins σ H5 s6 := I3.call' (ch := fp) I6.os I6.base I6.hok I6.bare fun b hb => ⟨(f3 b hb).2.2.2.1, (f3 b hb).2.1, (f3 b hb).2.2.2.2.1, (f3 b hb).2.2.2.2.2⟩
      obtain ⟨m, hm, _⟩ := I6.loc
      exact fin l _ s6 H5 ⟨m, hm⟩ IX (I3.fpOk (Nat.le_refl _) I6.free) q
    · refine thn (T.item (compCx X sc own fr s3 (upd H2 l (.lst [])) pins fp) rfl rfl rfl hc i [] s5 σ5 H5 FF I5 (stat fr5) st5 go) fun r s6 ⟨u, hr, h6⟩ => ?_
      subst hr
      refine thn h6 fun _ s7 ⟨x, H7, I7, r7, y7, st7, fr7⟩ => ?_
      have I7' := I7.pinned (stat fr7) (T.obj _ _ st7)
      refine thn (hg _ _ _ _ s7 σ5 H7 x u _ I7' r7 (step x H7 y7)) fun _ s8 ⟨σ8, H8, I8, q8⟩ => ?_
      refine thn (ht _ _ _ _ s8 σ8 H8 _ I8 q8) fun b s9 ⟨H9, I9, q9⟩ => ?_
      have again : ∀ {σ' : St} {H' : Hp} {s' : Shared} {ys' : List V} {m' : Nat}, Inv (compCx X sc own fr s3 (upd H2 l (.lst [])) pins fp) ([] ++ pinsAt fp s7.heap) σ' H' s' → m' < n → W (i + 1) m' ys' σ' H' →
          ∃ m, m < n ∧ ∃ i ys σ' H', Inv (compCx X sc own fr s3 (upd H2 l (.lst [])) pins fp) [] σ' H' s' ∧ tn i s'.heap ∧ (∀ b ∈ fp, H' b = none) ∧ W i m ys σ' H' := fun {σ' H' s' ys' m'} J' hm w' => by
        refine ⟨m', hm, i + 1, ys', σ', H', J'.unpinned, T.keep _ _ _ st7 fun b hb o e => (J'.pin (b, o) (List.mem_append_right _ (List.mem_append_right _ (mem_pinsAt hb e)))).1, fun b hb => ?_, w'⟩
        obtain ⟨o, e, d⟩ := T.obj _ _ st7 b hb
        exact (J'.pin (b, o) (List.mem_append_right _ (List.mem_append_right _ (mem_pinsAt hb e)))).2.1
      cases b with
      | false =>
        rw [if_neg Bool.false_ne_true] at q9
        obtain ⟨m', hm, w'⟩ := q9
        exact again I9 hm w'
      | true =>
        rw [if_pos rfl] at q9
        refine thn (he _ _ _ _ s9 σ8 H9 _ I9 q9) fun v s10 ⟨y, H10, I10, r10, e10, z10, m', hm, w'⟩ => ?_
        refine thn (mt_append (X := compCx X sc own fr s3 (upd H2 l (.lst [])) pins fp) _ s10 σ8 H10 (.ref l) [y] (.ref l) [v] (fun a b => b = upd H10 l (.lst (ys ++ [y]))) I10 rfl (.cons r10 .nil) ⟨l, ys, y, rfl, rfl, e10, z10, rfl⟩) fun _ s11 ⟨_, H11, I11, _, e11⟩ => ?_
        subst e11
        exact again I11 hm w'
  have e5 : ({ s2 with heap := s2.heap.push { cls := .type "list", data := .seq ([] : List Value).toArray } } : Shared) = s3 := by rw [← hs3]
  subst hl
  exact codeAny_compStart_list loop (T.self _ 0 _ _ _ st4 loop)
noncomputable def tComp (wi : TI) (n : Nat) (fr : List (Str × Nat)) (g : TG) (ti : TT) (te : TE) : TE := fun σ H Q => wi σ H fun J H1 => rdComp n fr g ti te σ J H1 Q
theorem pe_comp {wi : TI} (hc : X.calm = true) (S : CScope X sc own fr) (hi : PI X tg iter wi) (hg : ∀ s H pins fp, PG (compCx X sc own fr s H pins fp) tg g) (ht : ∀ s H pins fp, PIfs (compCx X sc own fr s H pins fp) ifs ti)
    (he : ∀ s H pins fp, PE (compCx X sc own fr s H pins fp) elt te) (hs : ∀ x, foldedSetIterable iter X.env x = pure x := by intro _; rfl) :
    PE X (.ListComp elt [⟨tg, iter, ifs, 0⟩] sc pos) (tComp wi own.length fr g ti te) := by
  intro pins s σ H Q I h
  rw [eval_ListComp]
  refine wpAny_comprehension_free (use := none) rfl hs (closureFor_eq (S.cells I)) S.kind S.loc ?_
  refine thn (hi pins s σ H _ I h) fun v s1 h1 => thn h1 fun itv s2 h2 => ?_
  obtain ⟨it, fp, tn, J, H2, rfl, I2, T, st2, f2, rd⟩ := h2
  refine block_run S hc (fun s H fp => hg s H pins fp) (fun s H fp => ht s H pins fp) (fun s H fp => he s H pins fp) I2 T st2 f2 rd (RR := fun acc C => compPost (model X.prog X.w) X.A X.xe none (EP X pins σ Q) acc C) ?_
  rintro l C s' H' ⟨m, hn⟩ I' ⟨f0, f1, _, f3, f4, f5⟩ q
  exact ⟨m, hn, fun h' hs' => ⟨.ref l, H', I'.turned (t' := s'.toks) (fun b o hb e => (hs'.2 b hb).trans e) f0 f1 f3 f4 f5, rfl, q⟩⟩
noncomputable def tCompSet (wi : TI) (n : Nat) (fr : List (Str × Nat)) (g : TG) (ti : TT) (te : TE) (i : Nat) : TS := fun D σ H => wi σ H fun J H1 => rdComp n fr g ti te σ J H1 fun v H2 => D.nx (σ.set i (some v)) H2
theorem ps_comp {wi : TI} {i : Nat} {x : Str} {px spos : Pos} (hc : X.calm = true) (hN : X.N.Nodup) (hix : X.N[i]? = some x) (hx : Loc X.env.scope x) (S : CScope X sc own fr) (hi : PI X tg iter wi) (hg : ∀ s H pins fp, PG (compCx X sc own fr s H pins fp) tg g)
    (ht : ∀ s H pins fp, PIfs (compCx X sc own fr s H pins fp) ifs ti) (he : ∀ s H pins fp, PE (compCx X sc own fr s H pins fp) elt te)
    (hsw : swapsWith (.ListComp elt [⟨tg, iter, ifs, 0⟩] sc pos) (some (.Name x px)) spos.line X.env = pure true := by rfl) (hs : ∀ x, foldedSetIterable iter X.env x = pure x := by intro _; rfl)
    (hf : X.fn x = true ∨ X.env.scope.names.lookup x = some .local := by first | exact .inl rfl | exact .inr rfl | assumption) :
    PS X (.Assign [.Name x px] (.ListComp elt [⟨tg, iter, ifs, 0⟩] sc pos) spos) (tCompSet wi own.length fr g ti te i) := by
  intro pins s σ H D I h
  rw [exec_Assign_Name_used _ _ _ _ hsw]
  refine wpAny_bind (wpAny_standAt (wpAny_bind ?_))
  show wpAny _ X.A (do let _ ← comprehension (.ListComp elt [⟨tg, iter, ifs, 0⟩] sc pos) sc X.env _ (newList []) false (eval iter X.env) (some (assign (.Name x px) X.env))) _ _ s
  refine wpAny_bind (wpAny_mono (wpAny_comprehension_free (use := some (assign (.Name x px) X.env)) (Q := fun _ s' => SP X pins D .next s') rfl hs (closureFor_eq (S.cells I)) S.kind S.loc ?_) (fun _ s' hq => wpAny_pure (wpAny_pure hq)) fun _ _ e => e)
  refine thn (hi pins s σ H _ I h) fun v s1 h1 => thn h1 fun itv s2 h2 => ?_
  obtain ⟨it, fp, tn, J, H2, rfl, I2, T, st2, f2, rd⟩ := h2
  refine block_run S hc (fun s H fp => hg s H pins fp) (fun s H fp => ht s H pins fp) (fun s H fp => he s H pins fp) I2 T st2 f2 rd (RR := fun acc C => compPost (model X.prog X.w) X.A X.xe (some (assign (.Name x px) X.env)) (fun _ s' => SP X pins D .next s') acc C) ?_
  rintro l C s' H' ⟨m, hn⟩ I' ⟨f0, f1, _, f3, f4, f5⟩ q
  show wpAny _ X.A (assign (.Name x px) X.env (.ref l)) _ _ s'
  refine wpAny_assign_Name (store_ok2 (v := .ref l) I' hN hix hx rfl (fun s'' I'' ⟨a, sb, ha⟩ => ?_) hf)
  have hCa : C ≠ a := by
    rcases ha with e | e
    · rw [e]; exact f1
    · exact Ne.symm (f4 x a e)
  refine ⟨m, hn.sameBut sb hCa, fun h' hs' => ?_⟩
  exact ⟨_, H', I''.turned (t' := s''.toks) (fun b o hb e => (hs'.2 b hb).trans e) f0 f1 f3 f4 f5, q⟩
end
end L2
set_option maxHeartbeats 4000000
namespace DL
open PySem PySem.Spec L2
inductive D where
  | non | bl (b : Bool) | int (i : Int) | str (x : Str) | lst (xs : List D) | tup (xs : List D)
  | ins (C : Addr) (ns : List Str) (ds : List D)
  | scr (ns : List Int)
    | exc (C : Addr)
  | dK (ks : List Key) (ds : List D)
  | dT (ks : List (List Key)) (ds : List D)
  | fn (f : Addr)
noncomputable def excAt (a C : Addr) : Heap → Prop := fun h => ∃ o, h.get? a = some o ∧ o.cls = .ref C
mutual
inductive Rep (K : PySem.W.Frag) (H : Hp) : D → V → Prop
  | non : Rep K H .non .non
  | bl (b : Bool) : Rep K H (.bl b) (.bl b)
  | int (i : Int) : Rep K H (.int i) (.int i)
  | str (x : Str) : Rep K H (.str x) (.str x)
  | lst {a : Addr} {xs : List V} {ds : List D} (h : H a = some (.lst xs)) (r : Reps K H ds xs) : Rep K H (.lst ds) (.ref a)
  | tup {a : Addr} {xs : List V} {ds : List D} (h : H a = some (.tup xs)) (r : Reps K H ds xs) : Rep K H (.tup ds) (.ref a)
  | ins {a C dx : Addr} {fs : List (Str × V)} {ns : List Str} {ds : List D} (h : H a = some (.ins C dx fs)) (e : fs.map (·.1) = ns) (r : Reps K H ds (fs.map (·.2))) : Rep K H (.ins C ns ds) (.ref a)
  | scr {a : Addr} {ns : List Int} (h : SqL K H a (ns.map V.int)) : Rep K H (.scr ns) (.ref a)
  | exc {a C : Addr} (h : H a = some (.ext (excAt a C))) : Rep K H (.exc C) (.ref a)
  | dK {a : Addr} {ob : Obj} {kvs : List (Key × V)} {ks : List Key} {ds : List D} (h : H a = some (.frz ob (.dK kvs))) (e : kvs.map (·.1) = ks) (r : Reps K H ds (kvs.map (·.2))) : Rep K H (.dK ks ds) (.ref a)
  | dT {a : Addr} {ob : Obj} {kvs : List (List Key × V)} {ks : List (List Key)} {ds : List D} (h : H a = some (.frz ob (.dT kvs))) (e : kvs.map (·.1) = ks) (r : Reps K H ds (kvs.map (·.2))) : Rep K H (.dT ks ds) (.ref a)
  | fn (f : Addr) : Rep K H (.fn f) (.ref f)
inductive Reps (K : PySem.W.Frag) (H : Hp) : List D → List V → Prop
  | nil : Reps K H [] []
  | cons {d : D} {v : V} {ds : List D} {vs : List V} (r : Rep K H d v) (rs : Reps K H ds vs) : Reps K H (d :: ds) (v :: vs)
end
section
variable {K : PySem.W.Frag} {H H' Hs Hs' : Hp}
mutual
theorem Rep.mono (s : Same H H') : ∀ {d : D} {v : V}, Rep K H d v → Rep K H' d v
  | _, _, .non => .non
  | _, _, .bl b => .bl b
  | _, _, .int i => .int i
  | _, _, .str x => .str x
  | _, _, .lst h r => .lst (s _ _ h) (Reps.mono s r)
  | _, _, .tup h r => .tup (s _ _ h) (Reps.mono s r)
  | _, _, .ins h e r => .ins (s _ _ h) e (Reps.mono s r)
  | _, _, .scr h => .scr (s.seq h)
  | _, _, .exc h => .exc (s _ _ h)
  | _, _, .dK h e r => .dK (s _ _ h) e (Reps.mono s r)
  | _, _, .dT h e r => .dT (s _ _ h) e (Reps.mono s r)
  | _, _, .fn f => .fn f
theorem Reps.mono (s : Same H H') : ∀ {ds : List D} {vs : List V}, Reps K H ds vs → Reps K H' ds vs
  | _, _, .nil => .nil
  | _, _, .cons r rs => .cons (Rep.mono s r) (Reps.mono s rs)
end
theorem Reps.length : ∀ {ds : List D} {vs : List V}, Reps K H ds vs → ds.length = vs.length
  | _, _, .nil => rfl
  | _, _, .cons _ rs => by rw [List.length_cons, List.length_cons, Reps.length rs]
theorem Reps.append : ∀ {ds es : List D} {vs us : List V}, Reps K H ds vs → Reps K H es us → Reps K H (ds ++ es) (vs ++ us)
  | _, _, _, _, .nil, r => r
  | _, _, _, _, .cons r rs, q => .cons r (Reps.append rs q)
theorem Reps.get : ∀ {ds : List D} {vs : List V} {i : Nat} {d : D}, Reps K H ds vs → ds[i]? = some d → ∃ v, vs[i]? = some v ∧ Rep K H d v
  | _, _, _, _, .nil, e => by simp at e
  | _, _, 0, _, .cons r _, e => by simp at e; subst e; exact ⟨_, rfl, r⟩
  | _, _, i + 1, d, .cons _ rs, e => by
    obtain ⟨v, h1, h2⟩ := Reps.get (i := i) (d := d) rs (by simpa using e)
    exact ⟨v, by simpa using h1, h2⟩
theorem Reps.getV : ∀ {ds : List D} {vs : List V} {i : Nat} {v : V}, Reps K H ds vs → vs[i]? = some v → ∃ d, ds[i]? = some d ∧ Rep K H d v
  | _, _, _, _, .nil, e => by simp at e
  | _, _, 0, _, .cons r _, e => by simp at e; subst e; exact ⟨_, rfl, r⟩
  | _, _, i + 1, v, .cons _ rs, e => by
    obtain ⟨d, h1, h2⟩ := Reps.getV (i := i) (v := v) rs (by simpa using e)
    exact ⟨d, by simpa using h1, h2⟩
theorem Reps.take : ∀ {ds : List D} {vs : List V} (n : Nat), Reps K H ds vs → Reps K H (ds.take n) (vs.take n)
  | _, _, 0, _ => .nil
  | _, _, _ + 1, .nil => .nil
  | _, _, n + 1, .cons r rs => .cons r (Reps.take n rs)
theorem Reps.drop : ∀ {ds : List D} {vs : List V} (n : Nat), Reps K H ds vs → Reps K H (ds.drop n) (vs.drop n)
  | _, _, 0, r => r
  | _, _, _ + 1, .nil => .nil
  | _, _, n + 1, .cons _ rs => Reps.drop n rs
theorem Reps.set {d : D} {v : V} (r : Rep K H d v) : ∀ {ds : List D} {vs : List V} (n : Nat), Reps K H ds vs → Reps K H (ds.set n d) (vs.set n v)
  | _, _, _, .nil => .nil
  | _, _, 0, .cons _ rs => .cons r rs
  | _, _, n + 1, .cons q rs => .cons q (Reps.set r n rs)
structure Grow (Hs H Hs' H' : Hp) : Prop where
  hs : Same Hs Hs'
  h : Same H H'
  sub : Same Hs' H'
  new : ∀ b, Hs' b ≠ none → Hs b = none → H b = none
theorem Grow.refl (s : Same Hs H) : Grow Hs H Hs H := ⟨Same.refl _, Same.refl _, s, fun b h e => absurd e h⟩
theorem Grow.trans {Hs1 H1 Hs2 H2 : Hp} (a : Grow Hs H Hs1 H1) (b : Grow Hs1 H1 Hs2 H2) : Grow Hs H Hs2 H2 := by
  refine ⟨a.hs.trans b.hs, a.h.trans b.h, b.sub, fun c h e => ?_⟩
  cases q : Hs1 c with
  | some o => exact a.new c (by rw [q]; simp) e
  | none => exact a.h.free (b.new c h q)
theorem sm_upd {a : Addr} {o : HO} (h : H a = none) : Same H (upd H a o) := fun b u e => by rw [upd_ne (ne_of_none e h)]; exact e
theorem sm_upd2 {a : Addr} {o : HO} (s : Same Hs H) : Same (upd Hs a o) (upd H a o) := fun b u e => by
  by_cases hb : b = a
  · subst hb; rw [upd_same] at e ⊢; exact e
  · rw [upd_ne hb] at e ⊢; exact s b u e
theorem sm_updR {a : Addr} {o : HO} (s : Same Hs H) (n : Hs a = none) : Same Hs (upd H a o) := fun b u e => by rw [upd_ne (ne_of_none e n)]; exact s b u e
theorem Grow.alloc {a : Addr} {o : HO} (s : Same Hs H) (h : H a = none) : Grow Hs H (upd Hs a o) (upd H a o) :=
  ⟨sm_upd (s.free h), sm_upd h, sm_upd2 s, fun b hb e => by
    by_cases q : b = a
    · rw [q]; exact h
    · rw [upd_ne q] at hb; exact absurd e hb⟩
end
inductive Ow where
  | lst (ds : List D) | dK (ks : List Key) (ds : List D) | dT (ks : List (List Key)) (ds : List D)
noncomputable def Ow.d : Ow → D
  | .lst ds => .lst ds
  | .dK ks ds => .dK ks ds
  | .dT ks ds => .dT ks ds
inductive OwRep (K : PySem.W.Frag) (H : Hp) : Ow → HO → Prop
  | lst {xs : List V} {ds : List D} (r : Reps K H ds xs) : OwRep K H (.lst ds) (.lst xs)
  | dK {kvs : List (Key × V)} {ks : List Key} {ds : List D} (e : kvs.map (·.1) = ks) (r : Reps K H ds (kvs.map (·.2))) : OwRep K H (.dK ks ds) (.dK kvs)
  | dT {kvs : List (List Key × V)} {ks : List (List Key)} {ds : List D} (e : kvs.map (·.1) = ks) (r : Reps K H ds (kvs.map (·.2))) : OwRep K H (.dT ks ds) (.dT kvs)
theorem OwRep.mono {K : PySem.W.Frag} {H H' : Hp} (s : Same H H') : ∀ {o : Ow} {ho : HO}, OwRep K H o ho → OwRep K H' o ho
  | _, _, .lst r => .lst (r.mono s)
  | _, _, .dK e r => .dK e (r.mono s)
  | _, _, .dT e r => .dT e (r.mono s)
noncomputable def frzHO (ob : Obj) : HO → HO
  | .dK kvs => .frz ob (.dK kvs)
  | .dT kvs => .frz ob (.dT kvs)
  | u => u
theorem OwRep.rep {K : PySem.W.Frag} {H : Hp} {a : Addr} {ob : Obj} : ∀ {o : Ow} {ho : HO}, H a = some (frzHO ob ho) → OwRep K H o ho → Rep K H o.d (.ref a)
  | _, _, h, .lst r => .lst h r
  | _, _, h, .dK e r => .dK h e r
  | _, _, h, .dT e r => .dT h e r
inductive Sl where
  | val (d : D)
  | ow (o : Ow)
noncomputable abbrev Sl.own (ds : List D) : Sl := .ow (.lst ds)
noncomputable abbrev Sl.ownT (ks : List (List Key)) (ds : List D) : Sl := .ow (.dT ks ds)
noncomputable abbrev Rho := List (Option Sl)
noncomputable def SlRep (K : PySem.W.Frag) (Hs H : Hp) : Sl → V → Prop
  | .val d, v => Rep K Hs d v
  | .ow o, v => ∃ a ho, v = .ref a ∧ Hs a = none ∧ H a = some ho ∧ OwRep K Hs o ho
structure StE (K : PySem.W.Frag) (Hs H : Hp) (ρ : Rho) (σ : St) : Prop where
  sub : Same Hs H
  len : ρ.length = σ.length
  slot : ∀ (i : Nat) (s : Sl), ρ[i]? = some (some s) → ∃ v, σ[i]? = some (some v) ∧ SlRep K Hs H s v
section
variable {K : PySem.W.Frag} {H H' Hs Hs' : Hp} {ρ : Rho} {σ : St}
theorem SlRep.grow (g : Grow Hs H Hs' H') : ∀ {s : Sl} {v : V}, SlRep K Hs H s v → SlRep K Hs' H' s v
  | .val _, _, r => Rep.mono g.hs r
  | .ow _, _, ⟨a, ho, e, n, h, r⟩ => by
    refine ⟨a, ho, e, ?_, g.h _ _ h, r.mono g.hs⟩
    cases q : Hs' a with
    | none => rfl
    | some o =>
      have z := g.new a (by rw [q]; simp) n
      rw [z] at h; cases h
theorem StE.grow (st : StE K Hs H ρ σ) (g : Grow Hs H Hs' H') : StE K Hs' H' ρ σ :=
  ⟨g.sub, st.len, fun i s e => let ⟨v, h1, h2⟩ := st.slot i s e; ⟨v, h1, h2.grow g⟩⟩
theorem StE.weak {ρ' : Rho} (st : StE K Hs H ρ σ) (hl : ρ'.length = ρ.length) (h : ∀ (i : Nat) (s : Sl), ρ'[i]? = some (some s) → ρ[i]? = some (some s)) : StE K Hs H ρ' σ :=
  ⟨st.sub, hl.trans st.len, fun i s e => st.slot i s (h i s e)⟩
theorem StE.set {i : Nat} {s : Sl} {v : V} (st : StE K Hs H ρ σ) (r : SlRep K Hs H s v) : StE K Hs H (ρ.set i (some s)) (σ.set i (some v)) := by
  refine ⟨st.sub, by rw [List.length_set, List.length_set]; exact st.len, fun j t e => ?_⟩
  by_cases hj : i = j
  · subst hj
    rw [List.getElem?_set] at e ⊢
    rw [if_pos rfl] at e ⊢
    have hl := st.len
    split at e
    · rename_i hi
      rw [if_pos (by omega)]
      cases e
      exact ⟨v, rfl, r⟩
    · cases e
  · rw [List.getElem?_set_ne hj] at e ⊢
    exact st.slot j t e
end
noncomputable abbrev Fe := Rho → Option D
noncomputable def tF (K : PySem.W.Frag) (f : Fe) : TE := fun σ H Q => ∃ ρ Hs d, StE K Hs H ρ σ ∧ f ρ = some d ∧ ∀ v H' Hs', Grow Hs H Hs' H' → Rep K Hs' d v → Q v H'
noncomputable def PF (X : Cx) (K : PySem.W.Frag) (e : Expr) (f : Fe) : Prop := X.K = K → PE X e (tF K f)
noncomputable def tFT (K : PySem.W.Frag) (f : Rho → Option Bool) : TT := fun σ H Q => ∃ ρ Hs b, StE K Hs H ρ σ ∧ f ρ = some b ∧ ∀ H' Hs', Grow Hs H Hs' H' → Q b H'
noncomputable def PFT (X : Cx) (K : PySem.W.Frag) (e : Expr) (f : Rho → Option Bool) : Prop := X.K = K → PT X e (tFT K f)
noncomputable def tFA (K : PySem.W.Frag) (f : Rho → Option (List D)) : TA := fun σ H Q => ∃ ρ Hs ds, StE K Hs H ρ σ ∧ f ρ = some ds ∧ ∀ vs H' Hs', Grow Hs H Hs' H' → Reps K Hs' ds vs → Q vs H'
noncomputable def PFA (X : Cx) (K : PySem.W.Frag) (es : List Expr) (f : Rho → Option (List D)) : Prop := X.K = K → PA X es (tFA K f)
theorem PE.imp {X : Cx} {e : Expr} {t t' : TE} (h : PE X e t) (i : ∀ σ H Q, t' σ H Q → t σ H Q) : PE X e t' := fun pins s σ H Q I q => h pins s σ H Q I (i σ H Q q)
theorem PT.imp {X : Cx} {e : Expr} {t t' : TT} (h : PT X e t) (i : ∀ σ H Q, t' σ H Q → t σ H Q) : PT X e t' := fun pins s σ H Q I q => h pins s σ H Q I (i σ H Q q)
theorem PW.imp {X : Cx} {e : Expr} {t t' : TT} (h : PW X e t) (i : ∀ σ H Q, t' σ H Q → t σ H Q) : PW X e t' := fun w pins s σ H Q I q => h w pins s σ H Q I (i σ H Q q)
theorem PA.imp {X : Cx} {e : List Expr} {t t' : TA} (h : PA X e t) (i : ∀ σ H Q, t' σ H Q → t σ H Q) : PA X e t' := fun p pins s σ H Q I q => h p pins s σ H Q I (i σ H Q q)
theorem PS.imp {X : Cx} {e : Stmt} {t t' : TS} (h : PS X e t) (i : ∀ D σ H, t' D σ H → t D σ H) : PS X e t' := fun pins s σ H D I q => h pins s σ H D I (i D σ H q)
theorem PSs.imp {X : Cx} {e : List Stmt} {t t' : TS} (h : PSs X e t) (i : ∀ D σ H, t' D σ H → t D σ H) : PSs X e t' := fun pins s σ H D I q => h pins s σ H D I (i D σ H q)
theorem PI.imp {X : Cx} {tg e : Expr} {t t' : TI} (h : PI X tg e t) (i : ∀ σ H Q, t' σ H Q → t σ H Q) : PI X tg e t' := fun pins s σ H Q I q => h pins s σ H Q I (i σ H Q q)
theorem PG.imp {X : Cx} {tg : Expr} {t t' : TG} (h : PG X tg t) (i : ∀ v σ H Q, t' v σ H Q → t v σ H Q) : PG X tg t' := fun pins s σ H v u Q I r q => h pins s σ H v u Q I r (i v σ H Q q)
noncomputable def fVar (i : Nat) : Fe := fun ρ => match ρ[i]? with
  | some (some (.val d)) => some d
  | _ => none
noncomputable def fC (d : D) : Fe := fun _ => some d
noncomputable def f1 (g : D → Option D) (f : Fe) : Fe := fun ρ => (f ρ).bind g
noncomputable def f2 (g : D → D → Option D) (f h : Fe) : Fe := fun ρ => (f ρ).bind fun x => (h ρ).bind fun y => g x y
noncomputable def fIf (t : Rho → Option Bool) (f h : Fe) : Fe := fun ρ => (t ρ).bind fun b => if b then f ρ else h ρ
noncomputable def aNil : Rho → Option (List D) := fun _ => some []
noncomputable def aCons (f : Fe) (r : Rho → Option (List D)) : Rho → Option (List D) := fun ρ => (f ρ).bind fun x => (r ρ).bind fun xs => some (x :: xs)
noncomputable def fA (g : List D → Option D) (a : Rho → Option (List D)) : Fe := fun ρ => (a ρ).bind g
noncomputable def bTest (f : Fe) : Rho → Option Bool := fun ρ => match f ρ with
  | some (.bl b) => some b
  | _ => none
noncomputable def bAnd (t u : Rho → Option Bool) : Rho → Option Bool := fun ρ => (t ρ).bind fun b => if b then u ρ else some false
noncomputable def bOr (t u : Rho → Option Bool) : Rho → Option Bool := fun ρ => (t ρ).bind fun b => if b then some true else u ρ
noncomputable def bNot (t : Rho → Option Bool) : Rho → Option Bool := fun ρ => (t ρ).map (!·)
noncomputable def truD : D → Option Bool
  | .non => some false
  | .bl b => some b
  | .int i => some (i != 0)
  | .lst xs => some (!xs.isEmpty)
  | .tup xs => some (!xs.isEmpty)
  | .scr ns => some (!ns.isEmpty)
  | _ => none
noncomputable def bTru (f : Fe) : Rho → Option Bool := fun ρ => (f ρ).bind truD
noncomputable def Op2 (K : PySem.W.Frag) (r : R2) (g : D → D → Option D) : Prop :=
  ∀ (Hs H : Hp) (x y z : D) (u v : V) (Q : VK), Same Hs H → Rep K Hs x u → Rep K Hs y v → g x y = some z → (∀ w H' Hs', Grow Hs H Hs' H' → Rep K Hs' z w → Q w H') → r u v H Q
noncomputable def Op1 (K : PySem.W.Frag) (r : V → Hp → VK → Prop) (g : D → Option D) : Prop :=
  ∀ (Hs H : Hp) (x z : D) (u : V) (Q : VK), Same Hs H → Rep K Hs x u → g x = some z → (∀ w H' Hs', Grow Hs H Hs' H' → Rep K Hs' z w → Q w H') → r u H Q
noncomputable def OpN (K : PySem.W.Frag) (r : List V → Hp → VK → Prop) (g : List D → Option D) : Prop :=
  ∀ (Hs H : Hp) (xs : List D) (z : D) (us : List V) (Q : VK), Same Hs H → Reps K Hs xs us → g xs = some z → (∀ w H' Hs', Grow Hs H Hs' H' → Rep K Hs' z w → Q w H') → r us H Q
section
variable {X : Cx} {K : PySem.W.Frag} {a b c e : Expr} {es : List Expr} {f h l : Fe} {g : D → D → Option D} {g1 : D → Option D} {pos : Pos} {t u : Rho → Option Bool}
theorem two_rd (r : V → V → Hp → Prop) {σ : St} {H : Hp} {ρ : Rho} {Hs : Hp} {x y : D} (st : StE K Hs H ρ σ) (e1 : f ρ = some x) (e2 : h ρ = some y)
    (k : ∀ (u v : V) (H' Hs' : Hp), Grow Hs H Hs' H' → Rep K Hs' x u → Rep K Hs' y v → r u v H') : tF K f σ H fun u H1 => tF K h σ H1 fun v H2 => r u v H2 :=
  ⟨ρ, Hs, x, st, e1, fun u H1 Hs1 g1 r1 => ⟨ρ, Hs1, y, st.grow g1, e2, fun v H2 Hs2 g2 r2 => k u v H2 Hs2 (g1.trans g2) (r1.mono g2.hs) r2⟩⟩
theorem bind2 {α β γ : Type} {o : Option α} {p : Option β} {k : α → β → Option γ} {z : γ} (h : (o.bind fun x => p.bind fun y => k x y) = some z) : ∃ x y, o = some x ∧ p = some y ∧ k x y = some z := by
  cases o with
  | none => cases h
  | some x =>
    cases p with
    | none => cases h
    | some y => exact ⟨x, y, rfl, rfl, h⟩
theorem bind1 {α γ : Type} {o : Option α} {k : α → Option γ} {z : γ} (h : o.bind k = some z) : ∃ x, o = some x ∧ k x = some z := by
  cases o with
  | none => cases h
  | some x => exact ⟨x, rfl, h⟩
theorem pf_var (i : Nat) {x : Str} (hN : X.N[i]? = some x := by rfl) (hv : Vis X.env.scope x := by first | exact Or.inl rfl | exact Or.inr (Or.inl rfl) | exact Or.inr (Or.inr rfl)) (hd : (x == ("__debug__" : Str)) = false := by decide)
    (hcd : (x == ("__classdict__" : Str)) = false := by decide) : PF X K (.Name x pos) (fVar i) := fun _ => PE.imp (pe_var hN hv hd hcd) fun σ H Q ⟨ρ, Hs, d, st, ef, k⟩ => by
  unfold fVar at ef
  split at ef
  · rename_i d' hi
    cases ef
    obtain ⟨v, h1, h2⟩ := st.slot i _ hi
    exact ⟨v, h1, k v H Hs (Grow.refl st.sub) h2⟩
  · cases ef
theorem pf_c {d : D} {v : V} (hr : ∀ H, Rep K H d v) (hp : PE X e (tC v)) : PF X K e (fC d) := fun _ => PE.imp hp fun σ H Q ⟨ρ, Hs, d', st, ef, k⟩ => by
  cases ef
  exact k v H Hs (Grow.refl st.sub) (hr _)
theorem pf_int {i j} : PF X K (.Constant (.int i) j pos) (fC (.int i)) := pf_c (fun _ => .int i) pe_int
theorem pf_bl {i j} : PF X K (.Constant (.bool i) j pos) (fC (.bl i)) := pf_c (fun _ => .bl i) pe_bl
theorem pf_non {j} : PF X K (.Constant .none j pos) (fC .non) := pf_c (fun _ => .non) pe_non
theorem pf_str {x j} : PF X K (.Constant (.str x) j pos) (fC (.str x)) := pf_c (fun _ => .str x) pe_str
theorem pf_glob {x : Str} {i : Int} {t : Tok} (hg : Gl X x) (hm : X.mg x = some (.int i t)) (hd : (x == ("__debug__" : Str)) = false := by decide) : PF X K (.Name x pos) (fC (.int i)) := pf_c (fun _ => .int i) (pe_glob hg hm ⟨t, rfl⟩ hd)
theorem pf_op {op : Operator} {r : R2} (ho : OpR X (binaryOp op) r) (hr : Op2 K r g) (ha : PF X K a f) (hb : PF X K b h) : PF X K (.BinOp a op b pos) (f2 g f h) := fun hK => PE.imp (pe_op ho (ha hK) (hb hK)) fun σ H Q ⟨ρ, Hs, d, st, ef, k⟩ => by
  obtain ⟨x, y, e1, e2, e3⟩ := bind2 ef
  exact two_rd (fun u v H' => r u v H' Q) st e1 e2 fun u v H' Hs' g r1 r2 => hr Hs' H' x y d u v Q g.sub r1 r2 e3 fun w H2 Hs2 g2 => k w H2 Hs2 (g.trans g2)
theorem pf_un {op : UnaryOp} {r : V → Hp → VK → Prop} (ho : UnR X (unaryOp op) r) (hr : Op1 K r g1) (ha : PF X K a f) : PF X K (.UnaryOp op a pos) (f1 g1 f) := fun hK => PE.imp (pe_un ho (ha hK)) fun σ H Q ⟨ρ, Hs, d, st, ef, k⟩ => by
  obtain ⟨x, e1, e3⟩ := bind1 ef
  exact ⟨ρ, Hs, x, st, e1, fun u H' Hs' g r1 => hr Hs' H' x d u Q g.sub r1 e3 fun w H2 Hs2 g2 => k w H2 Hs2 (g.trans g2)⟩
theorem pf_cmp {op : CmpOp} {r : R2} (ho : OpR X (compareOp op) r) (hr : Op2 K r g) (ha : PF X K a f) (hb : PF X K b h) (hm : behindInMarks op b = false := by first | exact nomark _ | rfl) : PF X K (.Compare a [op] [b] pos) (f2 g f h) := fun hK =>
  PE.imp (pe_cmpR ho (ha hK) (hb hK) hm) fun σ H Q ⟨ρ, Hs, d, st, ef, k⟩ => by
  obtain ⟨x, y, e1, e2, e3⟩ := bind2 ef
  exact two_rd (fun u v H' => r u v H' Q) st e1 e2 fun u v H' Hs' g r1 r2 => hr Hs' H' x y d u v Q g.sub r1 r2 e3 fun w H2 Hs2 g2 => k w H2 Hs2 (g.trans g2)
theorem pt_cmpF {op : CmpOp} {r : R2} (ho : OpR X (compareOp op) r) (hr : Op2 K r g) (ha : PF X K a f) (hb : PF X K b h) (hm : behindInMarks op b = false := by first | exact nomark _ | rfl) : PFT X K (.Compare a [op] [b] pos) (bTest (f2 g f h)) := fun hK =>
  PT.imp (pt_cmpR ho (ha hK) (hb hK) hm) fun σ H Q ⟨ρ, Hs, d, st, ef, k⟩ => by
  unfold bTest at ef
  split at ef
  · rename_i d' q
    cases ef
    obtain ⟨x, y, e1, e2, e3⟩ := bind2 q
    refine two_rd (fun u v H' => r u v H' _) st e1 e2 fun u v H' Hs' g r1 r2 => hr Hs' H' x y _ u v _ g.sub r1 r2 e3 fun w H2 Hs2 g2 rw => ?_
    cases rw
    exact ⟨_, rfl, k H2 Hs2 (g.trans g2)⟩
  · cases ef
noncomputable def f3c (g g' : D → D → Option D) (f h l : Fe) : Fe := fun ρ => (f ρ).bind fun x => (h ρ).bind fun y => match g x y with
  | some (.bl true) => (l ρ).bind fun z => g' y z
  | some (.bl false) => some (.bl false)
  | _ => none
theorem chain_rd {r r' : R2} {g g' : D → D → Option D} (hr : Op2 K r g) (hr' : Op2 K r' g') {σ : St} {H : Hp} {Q : VK} (hq : tF K (f3c g g' f h l) σ H Q) : tChain r r' (tF K f) (tF K h) (tF K l) σ H Q := by
  obtain ⟨ρ, Hs, d, st, ef, k⟩ := hq
  unfold f3c at ef
  obtain ⟨x, y, e1, e2, e3⟩ := bind2 ef
  refine two_rd (fun u v H' => r u v H' _) st e1 e2 fun u v H' Hs' gr r1 r2 => ?_
  split at e3
  · rename_i q
    obtain ⟨z, e4, e5⟩ := bind1 e3
    refine hr Hs' H' x y _ u v _ gr.sub r1 r2 q fun w H2 Hs2 g2 rw => ?_
    cases rw
    refine ⟨true, rfl, ?_⟩
    rw [if_pos rfl]
    refine ⟨ρ, Hs2, z, (st.grow gr).grow g2, e4, fun w3 H3 Hs3 g3 r3 => ?_⟩
    exact hr' Hs3 H3 y z d v w3 Q g3.sub ((r2.mono g2.hs).mono g3.hs) r3 e5 fun w4 H4 Hs4 g4 => k w4 H4 Hs4 (((gr.trans g2).trans g3).trans g4)
  · rename_i q
    cases e3
    refine hr Hs' H' x y _ u v _ gr.sub r1 r2 q fun w H2 Hs2 g2 rw => ?_
    cases rw
    refine ⟨false, rfl, ?_⟩
    rw [if_neg Bool.false_ne_true]
    exact k _ H2 Hs2 (gr.trans g2) (.bl false)
  · cases e3
end
end DL
set_option maxHeartbeats 4000000
namespace DL
open PySem PySem.Spec L2
section
variable {X : Cx} {K : PySem.W.Frag} {a b c e : Expr} {es rest : List Expr} {f h l : Fe} {g g' : D → D → Option D} {g1 : D → Option D} {pos : Pos} {t u : Rho → Option Bool} {as : Rho → Option (List D)}
theorem pf_chain {op op' : CmpOp} {r r' : R2} (ho : OpR X (compareOp op) r) (hr : Op2 K r g) (ho' : OpR X (compareOp op') r') (hr' : Op2 K r' g') (ha : PF X K a f) (hb : PF X K b h) (hc : PF X K c l)
    (hm : lastMarks [op, op'] [b, c] = false := by with_unfolding_all rfl) : PF X K (.Compare a [op, op'] [b, c] pos) (f3c g g' f h l) := fun hK =>
  PE.imp (pe_chain ho ho' (ha hK) (hb hK) (hc hK) hm) fun σ H Q hq => chain_rd hr hr' hq
theorem pt_chainF {op op' : CmpOp} {r r' : R2} (ho : OpR X (compareOp op) r) (hr : Op2 K r g) (ho' : OpR X (compareOp op') r') (hr' : Op2 K r' g') (ha : PF X K a f) (hb : PF X K b h) (hc : PF X K c l)
    (hm : lastMarks [op, op'] [b, c] = false := by with_unfolding_all rfl) : PFT X K (.Compare a [op, op'] [b, c] pos) (bTest (f3c g g' f h l)) := fun hK =>
  PT.imp (pt_chain ho ho' (ha hK) (hb hK) (hc hK) hm) fun σ H Q ⟨ρ, Hs, d, st, ef, k⟩ => by
  unfold bTest at ef
  split at ef
  · rename_i d' q
    cases ef
    refine chain_rd hr hr' ⟨ρ, Hs, _, st, q, fun v H' Hs' g rv => ?_⟩
    cases rv
    exact ⟨_, rfl, k H' Hs' g⟩
  · cases ef
noncomputable def PFW (X : Cx) (K : PySem.W.Frag) (e : Expr) (f : Rho → Option Bool) : Prop := X.K = K → PW X e (tFT K f)
theorem PFW.pt (h : PFW X K e t) : PFT X K e t := fun hK => (h hK).pt
theorem pw_and1F (ha : PFT X K a t) : PFW X K (.BoolOp .And [a] pos) t := fun hK => pw_and1 (ha hK)
theorem pw_or1F (ha : PFT X K a t) : PFW X K (.BoolOp .Or [a] pos) t := fun hK => pw_or1 (ha hK)
theorem pw_andF (ha : PFT X K a t) (hb : PFW X K (.BoolOp .And (b :: rest) pos) u) : PFW X K (.BoolOp .And (a :: b :: rest) pos) (bAnd t u) := fun hK => PW.imp (pw_and (ha hK) (hb hK)) fun σ H Q ⟨ρ, Hs, d, st, ef, k⟩ => by
  obtain ⟨x, e1, e2⟩ := bind1 ef
  refine ⟨ρ, Hs, x, st, e1, fun H' Hs' g => ?_⟩
  cases x with
  | true => rw [if_pos rfl] at e2 ⊢; exact ⟨ρ, Hs', d, st.grow g, e2, fun H2 Hs2 g2 => k H2 Hs2 (g.trans g2)⟩
  | false => rw [if_neg Bool.false_ne_true] at e2 ⊢; cases e2; exact k H' Hs' g
theorem pw_orF (ha : PFT X K a t) (hb : PFW X K (.BoolOp .Or (b :: rest) pos) u) : PFW X K (.BoolOp .Or (a :: b :: rest) pos) (bOr t u) := fun hK => PW.imp (pw_or (ha hK) (hb hK)) fun σ H Q ⟨ρ, Hs, d, st, ef, k⟩ => by
  obtain ⟨x, e1, e2⟩ := bind1 ef
  refine ⟨ρ, Hs, x, st, e1, fun H' Hs' g => ?_⟩
  cases x with
  | false => rw [if_neg Bool.false_ne_true] at e2 ⊢; exact ⟨ρ, Hs', d, st.grow g, e2, fun H2 Hs2 g2 => k H2 Hs2 (g.trans g2)⟩
  | true => rw [if_pos rfl] at e2 ⊢; cases e2; exact k H' Hs' g
theorem pt_notF (ha : PFT X K a t) : PFT X K (.UnaryOp .Not a pos) (bNot t) := fun hK => PT.imp (pt_not (ha hK)) fun σ H Q ⟨ρ, Hs, d, st, ef, k⟩ => by
  unfold bNot at ef
  cases q : t ρ with
  | none => rw [q] at ef; cases ef
  | some x =>
    rw [q] at ef
    have e' : (!x) = d := Option.some.inj ef
    exact ⟨ρ, Hs, x, st, q, fun H' Hs' g => by
      show Q (!x) H'
      rw [e']; exact k H' Hs' g⟩
theorem tru_rd {d : D} {v : V} {b : Bool} {Hs H : Hp} (s : Same Hs H) (r : Rep K Hs d v) (e : truD d = some b) : TruV K v H b := by
  cases r with
  | non => cases e; rfl
  | bl x => cases e; rfl
  | int i => cases e; rfl
  | str x => cases e
  | lst h r =>
    cases e
    refine .inl ⟨_, SqL.of (s _ _ h), ?_⟩
    have := r.length
    cases r <;> rfl
  | tup h r =>
    cases e
    refine .inr (.inl ⟨_, SqT.of (s _ _ h), ?_⟩)
    cases r <;> rfl
  | ins h e' r => cases e
  | @scr a ns h =>
    cases e
    refine .inl ⟨_, s.seq h, ?_⟩
    cases ns <;> rfl
  | exc h => cases e
  | dK h e' r => cases e
  | dT h e' r => cases e
  | fn f => cases e
theorem pt_truF (ha : PF X K a f) (he : ∀ whole, isTrue a X.env whole = (do let v ← whole; standAt a.pos; holding [v] (truthy v)) := by intro _; rfl) : PFT X K a (bTru f) := fun hK => PT.imp (pt_truth (ha hK) he) fun σ H Q ⟨ρ, Hs, d, st, ef, k⟩ => by
  obtain ⟨x, e1, e2⟩ := bind1 ef
  exact ⟨ρ, Hs, x, st, e1, fun v H' Hs' g r => ⟨d, by rw [hK]; exact tru_rd g.sub r e2, k H' Hs' g⟩⟩
theorem pf_if (hc : PFT X K c t) (ha : PF X K a f) (hb : PF X K b h) : PF X K (.IfExp c a b pos) (fIf t f h) := fun hK => PE.imp (pe_ifExp (hc hK) (ha hK) (hb hK)) fun σ H Q ⟨ρ, Hs, d, st, ef, k⟩ => by
  obtain ⟨x, e1, e2⟩ := bind1 ef
  refine ⟨ρ, Hs, x, st, e1, fun H' Hs' g => ?_⟩
  cases x with
  | true => rw [if_pos rfl] at e2 ⊢; exact ⟨ρ, Hs', d, st.grow g, e2, fun v H2 Hs2 g2 => k v H2 Hs2 (g.trans g2)⟩
  | false => rw [if_neg Bool.false_ne_true] at e2 ⊢; exact ⟨ρ, Hs', d, st.grow g, e2, fun v H2 Hs2 g2 => k v H2 Hs2 (g.trans g2)⟩
noncomputable def fAnd (f h : Fe) : Fe := fun ρ => match f ρ with
  | some (.bl true) => h ρ
  | some (.bl false) => some (.bl false)
  | _ => none
noncomputable def fNot (f : Fe) : Fe := fun ρ => match f ρ with
  | some (.bl b) => some (.bl (!b))
  | _ => none
theorem pf_one {op} (ha : PF X K a f) : PF X K (.BoolOp op [a] pos) f := fun hK => pe_one (ha hK)
theorem pf_and (ha : PF X K a f) (hb : PF X K (.BoolOp .And (b :: rest) pos) h) : PF X K (.BoolOp .And (a :: b :: rest) pos) (fAnd f h) := fun hK => PE.imp (pe_and (ha hK) (hb hK)) fun σ H Q ⟨ρ, Hs, d, st, ef, k⟩ => by
  unfold fAnd at ef
  split at ef
  · rename_i q
    refine ⟨ρ, Hs, _, st, q, fun v H' Hs' g r => ?_⟩
    cases r
    refine ⟨true, rfl, ?_⟩
    rw [if_pos rfl]
    exact ⟨ρ, Hs', d, st.grow g, ef, fun v H2 Hs2 g2 => k v H2 Hs2 (g.trans g2)⟩
  · rename_i q
    cases ef
    refine ⟨ρ, Hs, _, st, q, fun v H' Hs' g r => ?_⟩
    cases r
    refine ⟨false, rfl, ?_⟩
    rw [if_neg Bool.false_ne_true]
    exact k _ H' Hs' g (.bl false)
  · cases ef
theorem pf_not (ha : PF X K a f) : PF X K (.UnaryOp .Not a pos) (fNot f) := fun hK => PE.imp (pe_not (ha hK)) fun σ H Q ⟨ρ, Hs, d, st, ef, k⟩ => by
  unfold fNot at ef
  split at ef
  · rename_i x q
    cases ef
    refine ⟨ρ, Hs, _, st, q, fun v H' Hs' g r => ?_⟩
    cases r
    exact ⟨x, rfl, k _ H' Hs' g (.bl _)⟩
  · cases ef
theorem pfa_nil : PFA X K [] aNil := fun _ => PA.imp pa_nil fun σ H Q ⟨ρ, Hs, d, st, ef, k⟩ => by
  cases ef
  exact k [] H Hs (Grow.refl st.sub) .nil
theorem pfa_cons (ha : PF X K e f) (hr : PFA X K es as) (hs : starEach (e :: es) X.env = (false, eval e X.env) :: starEach es X.env := by rfl) : PFA X K (e :: es) (aCons f as) := fun hK => PA.imp (pa_cons (ha hK) (hr hK) hs) fun σ H Q ⟨ρ, Hs, d, st, ef, k⟩ => by
  obtain ⟨x, xs, e1, e2, e3⟩ := bind2 ef
  cases e3
  exact ⟨ρ, Hs, x, st, e1, fun v H1 Hs1 g1 r1 => ⟨ρ, Hs1, xs, st.grow g1, e2, fun vs H2 Hs2 g2 r2 => k _ H2 Hs2 (g1.trans g2) (.cons (r1.mono g2.hs) r2)⟩⟩
noncomputable def gTup : List D → Option D := fun ds => if ds.length ≤ sizeLine then some (.tup ds) else none
noncomputable def gLst : List D → Option D := fun ds => if ds.length ≤ sizeLine then some (.lst ds) else none
theorem pf_tup {x1} (ha : PFA X K es as) : PF X K (.Tuple es x1 pos) (fA gTup as) := fun hK => PE.imp (pe_tup (ha hK)) fun σ H Q ⟨ρ, Hs, d, st, ef, k⟩ => by
  obtain ⟨ds, e1, e2⟩ := bind1 ef
  unfold gTup at e2
  split at e2
  · rename_i hz
    cases e2
    refine ⟨ρ, Hs, ds, st, e1, fun vs H' Hs' g r => ⟨by rw [← r.length]; exact hz, fun p hp => ?_⟩⟩
    have ga := Grow.alloc (o := .tup vs) g.sub hp
    exact k _ _ _ (g.trans ga) (.tup upd_same (r.mono ga.hs))
  · cases e2
theorem pf_lst (ha : PFA X K es as) : PF X K (.List es pos) (fA gLst as) := fun hK => PE.imp (pe_lst (ha hK)) fun σ H Q ⟨ρ, Hs, d, st, ef, k⟩ => by
  obtain ⟨ds, e1, e2⟩ := bind1 ef
  unfold gLst at e2
  split at e2
  · rename_i hz
    cases e2
    refine ⟨ρ, Hs, ds, st, e1, fun vs H' Hs' g r => ⟨by rw [← r.length]; exact hz, fun p hp => ?_⟩⟩
    have ga := Grow.alloc (o := .lst vs) g.sub hp
    exact k _ _ _ (g.trans ga) (.lst upd_same (r.mono ga.hs))
  · cases e2
theorem cb_rd {r : List V → Hp → VK → Prop} {gN : List D → Option D} (hr : OpN K r gN) {σ : St} {H : Hp} {Q : VK} (q : tF K (fA gN as) σ H Q) : tCB r (tFA K as) σ H Q := by
  obtain ⟨ρ, Hs, d, st, ef, k⟩ := q
  obtain ⟨ds, e1, e2⟩ := bind1 ef
  exact ⟨ρ, Hs, ds, st, e1, fun vs H' Hs' g rv => hr Hs' H' ds d vs Q g.sub rv e2 fun w H2 Hs2 g2 => k w H2 Hs2 (g.trans g2)⟩
theorem pf_callB {id : String} {x : Str} {p : Pos} {r : List V → Hp → VK → Prop} {gN : List D → Option D} (hc : CallR X (.builtin id) r) (hr : OpN K r gN) (hg : Gl X x) (hm : X.mg x = none) (hv : bootBuiltins x = some (.builtin id)) (ha : PFA X K (e :: es) as)
    (hn : x ≠ "__name__" := by decide) (hdb : (x == ("__debug__" : Str)) = false := by decide) (he : starEach (e :: es) X.env = (false, eval e X.env) :: starEach es X.env := by rfl) (hpl : (backTo pos (starEach es X.env)).any (·.1) = false := by rfl) :
    PF X K (.Call (.Name x p) (e :: es) [] pos) (fA gN as) := fun hK => PE.imp (pe_callB hc hg hm hv (ha hK) hn hdb he hpl) fun σ H Q q => cb_rd hr q
theorem pf_callTy {T : String} {x : Str} {p : Pos} {r : List V → Hp → VK → Prop} {gN : List D → Option D} (hc : CallR X (.type T) r) (hr : OpN K r gN) (hg : Gl X x) (hm : X.mg x = none) (hv : bootBuiltins x = some (.type T)) (ha : PFA X K (e :: es) as)
    (hn : x ≠ "__name__" := by decide) (hdb : (x == ("__debug__" : Str)) = false := by decide) (he : starEach (e :: es) X.env = (false, eval e X.env) :: starEach es X.env := by rfl) (hpl : (backTo pos (starEach es X.env)).any (·.1) = false := by rfl) :
    PF X K (.Call (.Name x p) (e :: es) [] pos) (fA gN as) := fun hK => PE.imp (pe_callTy hc hg hm hv (ha hK) hn hdb he hpl) fun σ H Q q => cb_rd hr q
noncomputable def spF (K : PySem.W.Frag) (F : List D → Option D) : Sp := fun vs H Q _ => ∃ Hs ds d, Same Hs H ∧ Reps K Hs ds vs ∧ F ds = some d ∧ ∀ v H' Hs', Grow Hs H Hs' H' → Rep K Hs' d v → Q v H'
structure Df (P : Program) (w : World) (K : PySem.W.Frag) (mg : Str → Option Value) (base : Heap) (k : Nat) (x : Str) (ps : List Str) (F : List D → Option D) : Prop where
  ex : ∃ (f : Addr) (fd : FuncData), mg x = some (.ref f) ∧ PySem.W.keepIn K (.ref f) = true ∧ Binds K fd ps [] ∧ FnOk P w K mg base CX0 k f fd ps (spF K F)
theorem Df.mono {P : Program} {w : World} {mg : Str → Option Value} {base : Heap} {j k : Nat} {x : Str} {ps : List Str} {F : List D → Option D} (d : Df P w K mg base j x ps F) (h : j ≤ k) : Df P w K mg base k x ps F :=
  let ⟨f, fd, h1, h2, h3, h4⟩ := d.ex; ⟨f, fd, h1, h2, h3, h4.mono h⟩
theorem pf_call {k : Nat} {x : Str} {ps : List Str} {F : List D → Option D} {p : Pos} (hd : Df X.prog X.w K X.mg X.base k x ps F) (hr : Room k X.A) (hg : Gl X x) (ha : PFA X K (e :: es) as)
    (hdb : (x == ("__debug__" : Str)) = false := by decide) (he : starEach (e :: es) X.env = (false, eval e X.env) :: starEach es X.env := by rfl) (hpl : (backTo pos (starEach es X.env)).any (·.1) = false := by rfl) :
    PF X K (.Call (.Name x p) (e :: es) [] pos) (fA F as) := fun hK => by
  subst hK
  obtain ⟨fa, fd, h1, h2, h3, h4⟩ := hd.ex
  refine PE.imp (pe_call h4 hr hg h1 h2 h3 .nil pass0 (ha rfl) hdb he hpl) fun σ H Q ⟨ρ, Hs, d, st, ef, k⟩ => ?_
  obtain ⟨ds, e1, e2⟩ := bind1 ef
  refine ⟨ρ, Hs, ds, st, e1, fun vs H' Hs' g rv => ?_⟩
  show spF X.K F (vs ++ []) H' Q E0
  rw [List.append_nil]
  exact ⟨Hs', ds, d, g.sub, rv, e2, fun w H2 Hs2 g2 => k w H2 Hs2 (g.trans g2)⟩
theorem atI_rep {Hs : Hp} {ds : List D} {vs : List V} {i : Int} {d : D} (r : Reps K Hs ds vs) (e : atI ds i = some d) : ∃ v, atI vs i = some v ∧ Rep K Hs d v := by
  unfold atI at e ⊢
  rw [← r.length]
  cases q : ixN ds.length i with
  | none => rw [q] at e; cases e
  | some j =>
    rw [q] at e
    obtain ⟨v, h1, h2⟩ := r.get (show ds[j]? = some d from e)
    exact ⟨v, h1, h2⟩
noncomputable def gIx : D → D → Option D
  | .lst xs, .int i => atI xs i
  | .tup xs, .int i => atI xs i
  | .scr ns, .int i => (atI ns i).map D.int
  | _, _ => none
theorem atI_map {α β : Type} (k : α → β) (xs : List α) (i : Int) : atI (xs.map k) i = (atI xs i).map k := by
  unfold atI
  rw [List.length_map]
  cases ixN xs.length i with
  | none => rfl
  | some j => simp
theorem op_ix : Op2 K (rIx K) gIx := by
  intro Hs H x y z u v Q s rx ry e q
  cases rx with
  | lst h r =>
    cases ry with
    | int i =>
      obtain ⟨w, h1, h2⟩ := atI_rep r (show atI _ i = some z from e)
      exact .inl ⟨_, _, i, w, rfl, rfl, SqL.of (s _ _ h), h1, q w H Hs (Grow.refl s) h2⟩
    | _ => cases e
  | tup h r =>
    cases ry with
    | int i =>
      obtain ⟨w, h1, h2⟩ := atI_rep r (show atI _ i = some z from e)
      exact .inr (.inl ⟨_, _, i, w, rfl, rfl, SqT.of (s _ _ h), h1, q w H Hs (Grow.refl s) h2⟩)
    | _ => cases e
  | @scr a ns h =>
    cases ry with
    | int i =>
      have e' : (atI ns i).map D.int = some z := e
      cases q1 : atI ns i with
      | none => rw [q1] at e'; cases e'
      | some n =>
        rw [q1] at e'
        cases e'
        refine .inl ⟨a, ns.map V.int, i, .int n, rfl, rfl, s.seq h, ?_, q _ H Hs (Grow.refl s) (.int n)⟩
        rw [atI_map, q1]
        rfl
    | _ => cases e
  | _ => cases e
theorem pf_ix (ha : PF X K a f) (hb : PF X K b h) (hs : PlainIx b := by intro _ _; rfl) : PF X K (.Subscript a b pos) (f2 gIx f h) := fun hK => by
  subst hK
  refine PE.imp (pe_ix ix_seq (ha rfl) (hb rfl) hs) fun σ H Q ⟨ρ, Hs, d, st, ef, k⟩ => ?_
  obtain ⟨x, y, e1, e2, e3⟩ := bind2 ef
  exact two_rd (fun u v H' => rIx X.K u v H' Q) st e1 e2 fun u v H' Hs' g r1 r2 => op_ix Hs' H' x y d u v Q g.sub r1 r2 e3 fun w H2 Hs2 g2 => k w H2 Hs2 (g.trans g2)
noncomputable def cutD (xs : List D) (lo hi : Option Int) : List D := (xs.drop (HT.sIx xs.length 0 lo)).take (HT.sIx xs.length xs.length hi - HT.sIx xs.length 0 lo)
noncomputable abbrev Fo := Rho → Option (Option Int)
noncomputable def oNone : Fo := fun _ => some none
noncomputable def oSome (f : Fe) : Fo := fun ρ => match f ρ with
  | some (.int i) => some (some i)
  | _ => none
noncomputable def tFO (K : PySem.W.Frag) (f : Fo) : TO := fun σ H Q => ∃ ρ Hs o, StE K Hs H ρ σ ∧ f ρ = some o ∧ ∀ H' Hs', Grow Hs H Hs' H' → Q o H'
noncomputable def PFO (X : Cx) (K : PySem.W.Frag) (e : Option Expr) (f : Fo) : Prop := X.K = K → PO X e (tFO K f)
theorem PO.imp {X : Cx} {e : Option Expr} {t t' : TO} (h : PO X e t) (i : ∀ σ H Q, t' σ H Q → t σ H Q) : PO X e t' := fun pins s σ H Q I q => h pins s σ H Q I (i σ H Q q)
theorem pfo_none : PFO X K none oNone := fun _ => PO.imp po_none fun σ H Q ⟨ρ, Hs, d, st, ef, k⟩ => by
  cases ef
  exact k H Hs (Grow.refl st.sub)
theorem pfo_some (h : PF X K e f) : PFO X K (some e) (oSome f) := fun hK => PO.imp (po_some (h hK)) fun σ H Q ⟨ρ, Hs, d, st, ef, k⟩ => by
  unfold oSome at ef
  split at ef
  · rename_i i q
    cases ef
    refine ⟨ρ, Hs, _, st, q, fun v H' Hs' g r => ?_⟩
    cases r
    exact ⟨i, rfl, k H' Hs' g⟩
  · cases ef
theorem cut_rep {Hs : Hp} {ds : List D} {vs : List V} (lo hi : Option Int) (r : Reps K Hs ds vs) : Reps K Hs (cutD ds lo hi) (cutV vs lo hi) := by
  unfold cutD cutV
  rw [r.length]
  exact (r.drop _).take _
noncomputable def gFld (C : Addr) (n : Str) : D → Option D
  | .ins C' ns ds => if C' = C then ((ns.zip ds).lookup n) else none
  | _ => none
theorem look_rep {Hs : Hp} {n : Str} {d : D} : ∀ {fs : List (Str × V)} {ds : List D}, Reps K Hs ds (fs.map (·.2)) → (((fs.map (·.1)).zip ds).lookup n) = some d → ∃ v, fs.lookup n = some v ∧ Rep K Hs d v
  | [], _, _, e => by simp at e
  | (m, w) :: fs, [], r, _ => by cases r
  | (m, w) :: fs, d' :: ds, r, e => by
    cases r with
    | cons r rs =>
      rw [List.map_cons, List.zip_cons_cons, List.lookup_cons] at e
      rw [List.lookup_cons]
      cases q : n == m with
      | true => rw [q] at e; cases e; exact ⟨w, rfl, r⟩
      | false => rw [q] at e; exact look_rep rs e
theorem pf_fld {C : Addr} {n : Str} (ha : PF X K a f) (hC : Cls K C) (hn : NoAttr K C n) (hb : attributeBase a n X.env (eval a X.env) = eval a X.env := by rfl) : PF X K (.Attribute a n pos) (f1 (gFld C n) f) := fun hK => by
  subst hK
  refine PE.imp (pe_fld (ha rfl) hb) fun σ H Q ⟨ρ, Hs, d, st, ef, k⟩ => ?_
  obtain ⟨x, e1, e2⟩ := bind1 ef
  refine ⟨ρ, Hs, x, st, e1, fun v H' Hs' g r => ?_⟩
  cases r with
  | @ins p C' dx fs ns ds h e r =>
    subst e
    have e3 : (if C' = C then (((fs.map (·.1)).zip ds).lookup n) else none) = some d := e2
    split at e3
    · rename_i he
      subst he
      obtain ⟨w, h1, h2⟩ := look_rep r e3
      exact ⟨p, C', dx, fs, w, rfl, g.sub _ _ h, hC, hn, h1, k w H' Hs' g h2⟩
    · cases e3
  | _ => cases e2
end
end DL
set_option maxHeartbeats 4000000
namespace DL
open PySem PySem.Spec L2
inductive Out where
  | nx (ρ : Rho)
  | rt (d : D)
noncomputable abbrev Fs := Rho → Option Out
structure St1 (K : PySem.W.Frag) (Hs₀ H₀ Hs H : Hp) (ρ : Rho) (σ : St) : Prop where
  st : StE K Hs H ρ σ
  gr : Grow Hs₀ H₀ Hs H
  fresh : ∀ (i : Nat) (o : Ow) (a : Addr), ρ[i]? = some (some (.ow o)) → σ[i]? = some (some (.ref a)) → H₀ a = none
  apart : ∀ (i j : Nat) (o u : Ow) (a : Addr), ρ[i]? = some (some (.ow o)) → ρ[j]? = some (some (.ow u)) → σ[i]? = some (some (.ref a)) → σ[j]? = some (some (.ref a)) → i = j
noncomputable def oEnd (K : PySem.W.Frag) (Hs₀ H₀ Hs : Hp) (Dn : Ends) : Out → Prop
  | .nx ρ' => ∀ σ' H' Hs', St1 K Hs₀ H₀ Hs' H' ρ' σ' → Same Hs Hs' → Dn.nx σ' H'
  | .rt d => ∀ v H' Hs', Grow Hs₀ H₀ Hs' H' → Rep K Hs' d v → Dn.rt v H'
noncomputable def tFS (K : PySem.W.Frag) (g : Fs) : TS := fun Dn σ H => ∃ Hs₀ H₀ ρ Hs out, St1 K Hs₀ H₀ Hs H ρ σ ∧ g ρ = some out ∧ oEnd K Hs₀ H₀ Hs Dn out
theorem oEnd.weak {K : PySem.W.Frag} {Hs₀ H₀ Hs Hs' : Hp} {Dn : Ends} (s : Same Hs Hs') : ∀ {o : Out}, oEnd K Hs₀ H₀ Hs Dn o → oEnd K Hs₀ H₀ Hs' Dn o
  | .nx _, h => fun σ H Hs'' st q => h σ H Hs'' st (s.trans q)
  | .rt _, h => h
noncomputable def PFS (X : Cx) (K : PySem.W.Frag) (st : Stmt) (g : Fs) : Prop := X.K = K → PS X st (tFS K g)
noncomputable def PFSs (X : Cx) (K : PySem.W.Frag) (st : List Stmt) (g : Fs) : Prop := X.K = K → PSs X st (tFS K g)
section
variable {K : PySem.W.Frag} {Hs₀ H₀ Hs H Hs' H' : Hp} {ρ : Rho} {σ : St}
theorem St1.grow (s : St1 K Hs₀ H₀ Hs H ρ σ) (g : Grow Hs H Hs' H') : St1 K Hs₀ H₀ Hs' H' ρ σ := ⟨s.st.grow g, s.gr.trans g, s.fresh, s.apart⟩
theorem own_ne {i j : Nat} {s : Option Sl} {es : Ow} (h : (ρ.set i s)[j]? = some (some (.ow es))) (hs : ∀ es, s ≠ some (.ow es)) : j ≠ i ∧ ρ[j]? = some (some (.ow es)) := by
  by_cases hj : i = j
  · subst hj
    rw [List.getElem?_set] at h
    rw [if_pos rfl] at h
    split at h
    · exact absurd (Option.some.inj h) (hs es)
    · cases h
  · rw [List.getElem?_set_ne hj] at h
    exact ⟨Ne.symm hj, h⟩
theorem St1.set {i : Nat} {d : D} {v : V} (s : St1 K Hs₀ H₀ Hs H ρ σ) (r : Rep K Hs d v) : St1 K Hs₀ H₀ Hs H (ρ.set i (some (.val d))) (σ.set i (some v)) := by
  have no : ∀ es, (some (Sl.val d)) ≠ some (.ow es) := fun es z => by cases z
  refine ⟨s.st.set r, s.gr, fun j ds a h1 h2 => ?_, fun j k ds es a h1 h2 h3 h4 => ?_⟩
  · obtain ⟨n1, n2⟩ := own_ne h1 no
    rw [List.getElem?_set_ne (Ne.symm n1)] at h2
    exact s.fresh j ds a n2 h2
  · obtain ⟨n1, m1⟩ := own_ne h1 no
    obtain ⟨n2, m2⟩ := own_ne h2 no
    rw [List.getElem?_set_ne (Ne.symm n1)] at h3
    rw [List.getElem?_set_ne (Ne.symm n2)] at h4
    exact s.apart j k ds es a m1 m2 h3 h4
theorem set_own {i j : Nat} {s : Option Sl} {x : Option Sl} (h : (ρ.set i s)[j]? = some x) : (j = i ∧ x = s ∧ i < ρ.length) ∨ (j ≠ i ∧ ρ[j]? = some x) := by
  by_cases hj : i = j
  · subst hj
    rw [List.getElem?_set] at h
    rw [if_pos rfl] at h
    split at h
    · rename_i hi
      exact .inl ⟨rfl, (Option.some.inj h).symm, hi⟩
    · cases h
  · rw [List.getElem?_set_ne hj] at h
    exact .inr ⟨Ne.symm hj, h⟩
theorem StE.owAt {i : Nat} {o : Ow} (s : StE K Hs H ρ σ) (h : ρ[i]? = some (some (.ow o))) : ∃ a ho, σ[i]? = some (some (.ref a)) ∧ Hs a = none ∧ H a = some ho ∧ OwRep K Hs o ho := by
  obtain ⟨v, h1, a, ho, rfl, h2, h3, h4⟩ := s.slot i _ h
  exact ⟨a, ho, h1, h2, h3, h4⟩
theorem StE.ownAt {i : Nat} {ds : List D} (s : StE K Hs H ρ σ) (h : ρ[i]? = some (some (.own ds))) : ∃ a xs, σ[i]? = some (some (.ref a)) ∧ Hs a = none ∧ H a = some (.lst xs) ∧ Reps K Hs ds xs := by
  obtain ⟨a, ho, h1, h2, h3, h4⟩ := s.owAt h
  cases h4 with
  | lst r => exact ⟨a, _, h1, h2, h3, r⟩
theorem St1.setOw {i : Nat} {o : Ow} {ho : HO} {p : Addr} (s : St1 K Hs₀ H₀ Hs H ρ σ) (hp : H p = none) (r : OwRep K Hs o ho) : St1 K Hs₀ H₀ Hs (upd H p ho) (ρ.set i (some (.ow o))) (σ.set i (some (.ref p))) := by
  have hsp : Hs p = none := s.st.sub.free hp
  have sub : Same Hs (upd H p ho) := sm_updR s.st.sub hsp
  have gr : Grow Hs₀ H₀ Hs (upd H p ho) := ⟨s.gr.hs, s.gr.h.trans (sm_upd hp), sub, s.gr.new⟩
  have h0 : H₀ p = none := s.gr.h.free hp
  have old : ∀ {j : Nat} {u : Ow} {a : Addr}, ρ[j]? = some (some (.ow u)) → σ[j]? = some (some (.ref a)) → a ≠ p := fun {j u a} h1 h2 z => by
    obtain ⟨a', xs', q1, q2, q3, q4⟩ := s.st.owAt h1
    rw [h2] at q1
    cases q1
    rw [z, hp] at q3
    cases q3
  refine ⟨⟨sub, by rw [List.length_set, List.length_set]; exact s.st.len, fun j t e => ?_⟩, gr, fun j u a h1 h2 => ?_, fun j k u v a h1 h2 h3 h4 => ?_⟩
  · rcases set_own e with ⟨rfl, e', hi⟩ | ⟨n, e'⟩
    · cases e'
      refine ⟨.ref p, ?_, p, ho, rfl, hsp, upd_same, r⟩
      rw [List.getElem?_set, if_pos rfl, if_pos (by have := s.st.len; lia)]
    · obtain ⟨v, q1, q2⟩ := s.st.slot j t e'
      refine ⟨v, by rw [List.getElem?_set_ne (Ne.symm n)]; exact q1, ?_⟩
      cases t with
      | val d => exact q2
      | ow u =>
        obtain ⟨a, ys, rfl, k1, k2, k3⟩ := q2
        exact ⟨a, ys, rfl, k1, by rw [upd_ne (old e' q1)]; exact k2, k3⟩
  · rcases set_own h1 with ⟨rfl, _, hi⟩ | ⟨n, e'⟩
    · rw [List.getElem?_set, if_pos rfl, if_pos (by have := s.st.len; lia)] at h2
      cases h2
      exact h0
    · rw [List.getElem?_set_ne (Ne.symm n)] at h2
      exact s.fresh j u a e' h2
  · rcases set_own h1 with ⟨e1, _, hi⟩ | ⟨n1, m1⟩ <;> rcases set_own h2 with ⟨e2, _, hi2⟩ | ⟨n2, m2⟩
    · rw [e1, e2]
    · rw [List.getElem?_set_ne (Ne.symm n2)] at h4
      rw [e1, List.getElem?_set, if_pos rfl, if_pos (by have := s.st.len; lia)] at h3
      cases h3
      exact absurd rfl (old m2 h4)
    · rw [List.getElem?_set_ne (Ne.symm n1)] at h3
      rw [e2, List.getElem?_set, if_pos rfl, if_pos (by have := s.st.len; lia)] at h4
      cases h4
      exact absurd rfl (old m1 h3)
    · rw [List.getElem?_set_ne (Ne.symm n1)] at h3
      rw [List.getElem?_set_ne (Ne.symm n2)] at h4
      exact s.apart j k u v a m1 m2 h3 h4
theorem St1.setOwn {i : Nat} {ds : List D} {xs : List V} {p : Addr} (s : St1 K Hs₀ H₀ Hs H ρ σ) (hp : H p = none) (r : Reps K Hs ds xs) : St1 K Hs₀ H₀ Hs (upd H p (.lst xs)) (ρ.set i (some (.own ds))) (σ.set i (some (.ref p))) := s.setOw hp (.lst r)
theorem St1.putOw {i : Nat} {o u : Ow} {hu : HO} {a : Addr} (s : St1 K Hs₀ H₀ Hs H ρ σ) (h : ρ[i]? = some (some (.ow o))) (ha : σ[i]? = some (some (.ref a))) (r : OwRep K Hs u hu) :
    St1 K Hs₀ H₀ Hs (upd H a hu) (ρ.set i (some (.ow u))) σ := by
  obtain ⟨a', xs', q1, hsa, hHa, _⟩ := s.st.owAt h
  rw [ha] at q1
  cases q1
  have h0 : H₀ a = none := s.fresh i o a h ha
  have sub : Same Hs (upd H a hu) := sm_updR s.st.sub hsa
  refine ⟨⟨sub, by rw [List.length_set]; exact s.st.len, fun j t e => ?_⟩, ⟨s.gr.hs, sm_updR s.gr.h h0, sub, s.gr.new⟩, fun j w b h1 h2 => ?_, fun j k w z b h1 h2 h3 h4 => ?_⟩
  · rcases set_own e with ⟨rfl, e', hi⟩ | ⟨n, e'⟩
    · cases e'
      exact ⟨.ref a, ha, a, hu, rfl, hsa, upd_same, r⟩
    · obtain ⟨v, q1, q2⟩ := s.st.slot j t e'
      refine ⟨v, q1, ?_⟩
      cases t with
      | val d => exact q2
      | ow w =>
        obtain ⟨b, zs, rfl, k1, k2, k3⟩ := q2
        have : b ≠ a := fun z => n (s.apart j i w o a e' h (z ▸ q1) ha)
        exact ⟨b, zs, rfl, k1, by rw [upd_ne this]; exact k2, k3⟩
  · rcases set_own h1 with ⟨rfl, _, hi⟩ | ⟨n, e'⟩
    · rw [ha] at h2; cases h2; exact h0
    · exact s.fresh j w b e' h2
  · rcases set_own h1 with ⟨e1, _, _⟩ | ⟨n1, m1⟩ <;> rcases set_own h2 with ⟨e2, _, _⟩ | ⟨n2, m2⟩
    · rw [e1, e2]
    · subst e1; exact s.apart _ k o z b h m2 h3 h4
    · subst e2; exact s.apart j _ w o b m1 h h3 h4
    · exact s.apart j k w z b m1 m2 h3 h4
theorem St1.putOwn {i : Nat} {ds es : List D} {ys : List V} {a : Addr} (s : St1 K Hs₀ H₀ Hs H ρ σ) (h : ρ[i]? = some (some (.own ds))) (ha : σ[i]? = some (some (.ref a))) (r : Reps K Hs es ys) :
    St1 K Hs₀ H₀ Hs (upd H a (.lst ys)) (ρ.set i (some (.own es))) σ := s.putOw h ha (.lst r)
noncomputable def frz (i : Nat) (ρ : Rho) : Rho := match ρ[i]? with
  | some (some (.ow o)) => ρ.set i (some (.val o.d))
  | _ => ρ
theorem St1.frz {i : Nat} {o : Ow} {ho : HO} {a : Addr} (ob : Obj) (s : St1 K Hs₀ H₀ Hs H ρ σ) (h : ρ[i]? = some (some (.ow o))) (ha : σ[i]? = some (some (.ref a))) (hsa : Hs a = none) (hHa : H a = some ho) (r : OwRep K Hs o ho) : ∃ Hs', St1 K Hs₀ H₀ Hs' (upd H a (frzHO ob ho)) (DL.frz i ρ) σ ∧ Same Hs Hs' := by
  have ef : DL.frz i ρ = ρ.set i (some (.val o.d)) := by unfold DL.frz; rw [h]
  rw [ef]
  have h0 : H₀ a = none := s.fresh i o a h ha
  have hs : Same Hs (upd Hs a (frzHO ob ho)) := sm_upd hsa
  have sub : Same (upd Hs a (frzHO ob ho)) (upd H a (frzHO ob ho)) := sm_upd2 s.st.sub
  have no : ∀ es, (some (Sl.val o.d)) ≠ some (.ow es) := fun es z => by cases z
  have gr : Grow Hs₀ H₀ (upd Hs a (frzHO ob ho)) (upd H a (frzHO ob ho)) := ⟨s.gr.hs.trans hs, fun b u e => by rw [upd_ne (ne_of_none e h0)]; exact s.gr.h b u e, sub, fun b hb e => by
    by_cases q : b = a
    · rw [q]; exact h0
    · rw [upd_ne q] at hb; exact s.gr.new b hb e⟩
  refine ⟨upd Hs a (frzHO ob ho), ⟨⟨sub, by rw [List.length_set]; exact s.st.len, fun j t e => ?_⟩, gr, fun j w b h1 h2 => ?_, fun j k w z b h1 h2 h3 h4 => ?_⟩, hs⟩
  · rcases set_own e with ⟨rfl, e', hi⟩ | ⟨n, e'⟩
    · cases e'
      exact ⟨.ref a, ha, OwRep.rep upd_same (r.mono hs)⟩
    · obtain ⟨v, q1, q2⟩ := s.st.slot j t e'
      refine ⟨v, q1, ?_⟩
      cases t with
      | val d => exact Rep.mono hs q2
      | ow w =>
        obtain ⟨b, zs, rfl, k1, k2, k3⟩ := q2
        have : b ≠ a := fun z => n (s.apart j i w o a e' h (z ▸ q1) ha)
        exact ⟨b, zs, rfl, by rw [upd_ne this]; exact k1, by rw [upd_ne this]; exact k2, k3.mono hs⟩
  · obtain ⟨n1, m1⟩ := own_ne h1 no
    exact s.fresh j w b m1 h2
  · obtain ⟨n1, m1⟩ := own_ne h1 no
    obtain ⟨n2, m2⟩ := own_ne h2 no
    exact s.apart j k w z b m1 m2 h3 h4
theorem Inv.freeze {X : Cx} {pins : List (Addr × Obj)} {σ : L2.St} {H : Hp} {s : Shared} {K : PySem.W.Frag} {Hs : Hp} {o : Ow} {ho : HO} {a : Addr} (I : Inv X pins σ H s) (hH : H a = some ho) (r : OwRep K Hs o ho) : ∃ ob, Inv X pins σ (upd H a (frzHO ob ho)) s := by
  have core : ∀ ob, s.heap.get? a = some ob → ho = .dK [] ∨ (∃ kvs, ho = .dK kvs) ∨ (∃ kvs, ho = .dT kvs) → frzHO ob ho = .frz ob ho → Inv X pins σ (upd H a (frzHO ob ho)) s := fun ob e hk ef => by
    have nd : ∀ {b : Addr} {u : HO}, H b = some u → u ≠ ho → b ≠ a := fun {b u} q n z => by rw [z, hH] at q; exact n (Option.some.inj q).symm
    have ntup : ∀ xs, HO.tup xs ≠ ho := fun xs z => by rcases hk with q | ⟨_, q⟩ | ⟨_, q⟩ <;> (rw [q] at z; cases z)
    have nown : ∀ x, HO.own x ≠ ho := fun xs z => by rcases hk with q | ⟨_, q⟩ | ⟨_, q⟩ <;> (rw [q] at z; cases z)
    have nfrz : ∀ x y, HO.frz x y ≠ ho := fun x y z => by rcases hk with q | ⟨_, q⟩ | ⟨_, q⟩ <;> (rw [q] at z; cases z)
    have ntbl : ∀ x, HO.tbl x ≠ ho := fun x z => by rcases hk with q | ⟨_, q⟩ | ⟨_, q⟩ <;> (rw [q] at z; cases z)
    have stay : ∀ b u, H b = some u → ObjOk X.prog X.w (upd H a (frzHO ob ho)) s.heap b u := fun b u q => (I.hok b u q).stay (fun c v hc r => r) (fun c r => by rw [upd_ne (nd r (nown _))]; exact r) fun c xs r => by rw [upd_ne (nd r (ntup _))]; exact r
    refine I.un (t' := s.toks) ⟨fun b u q _ _ _ => q, fun b u q _ _ _ => ⟨u.slots, q⟩, fun b u q n _ => ?_, fun b u q _ => ⟨u, q⟩, fun b xs q => ?_, fun b u xs q => ?_, fun b ps q => ⟨#[], ?_⟩⟩ fun b u q => ?_
    · rw [upd_ne (fun z => by rw [z, hH] at n; cases n)]; exact n
    · rw [upd_ne (nd q (ntup _))]; exact q
    · rw [upd_ne (nd q (nfrz _ _))]; exact q
    · rw [upd_ne (nd q (ntbl _)), q]; simp
    · by_cases hb : b = a
      · subst hb
        rw [upd_same] at q
        cases q
        have z := stay b ho hH
        rw [ef]
        rw [ef] at z
        exact ⟨e, z⟩
      · rw [upd_ne hb] at q
        exact stay b u q
  have hget : ∃ ob, s.heap.get? a = some ob := by
    have lt := (I.hok a ho hH).lt
    cases r with
    | lst _ => obtain ⟨_, _, _, _, e⟩ := (show ObjOk X.prog X.w H s.heap a (.lst _) from I.hok a _ hH); exact ⟨_, e⟩
    | dK _ _ => obtain ⟨_, _, _, _, ⟨o, _, _, e, _⟩⟩ := (show ObjOk X.prog X.w H s.heap a (.dK _) from I.hok a _ hH); exact ⟨_, e⟩
    | dT _ _ => obtain ⟨_, _, _, _, ⟨o, _, _, e, _⟩⟩ := (show ObjOk X.prog X.w H s.heap a (.dT _) from I.hok a _ hH); exact ⟨_, e⟩
  obtain ⟨ob, e⟩ := hget
  cases r with
  | @lst xs _ _ =>
    refine ⟨ob, ?_⟩
    have : upd H a (frzHO ob (.lst xs)) = H := by
      funext b
      unfold upd
      split
      · rename_i q; rw [q, hH]; rfl
      · rfl
    rw [this]
    exact I
  | dK _ _ => exact ⟨ob, core ob e (.inr (.inl ⟨_, rfl⟩)) rfl⟩
  | dT _ _ => exact ⟨ob, core ob e (.inr (.inr ⟨_, rfl⟩)) rfl⟩
end
noncomputable def gSeq (g h : Fs) : Fs := fun ρ => (g ρ).bind fun o => match o with
  | .nx ρ' => h ρ'
  | .rt d => some (.rt d)
noncomputable def gNext : Fs := fun ρ => some (.nx ρ)
noncomputable def gFrz (i : Nat) (g : Fs) : Fs := fun ρ => g (frz i ρ)
noncomputable def gSet (i : Nat) (f : Fe) : Fs := fun ρ => (f ρ).bind fun d => some (.nx (ρ.set i (some (.val d))))
noncomputable def gNew (i : Nat) (a : Rho → Option (List D)) : Fs := fun ρ => (a ρ).bind fun ds => if ds.length ≤ sizeLine then some (.nx (ρ.set i (some (.own ds)))) else none
noncomputable def gRet (f : Fe) : Fs := fun ρ => (f ρ).bind fun d => some (.rt d)
noncomputable def gIf (t : Rho → Option Bool) (g h : Fs) : Fs := fun ρ => (t ρ).bind fun b => if b then g ρ else h ρ
noncomputable def gApp (i : Nat) (f : Fe) : Fs := fun ρ => (f ρ).bind fun d => match ρ[i]? with
  | some (some (.ow (.lst ds))) => if ds.length < sizeLine then some (.nx (ρ.set i (some (.own (ds ++ [d]))))) else none
  | _ => none
section
variable {X : Cx} {K : PySem.W.Frag} {st : Stmt} {sts body : List Stmt} {g h : Fs} {e : Expr} {es : List Expr} {f : Fe} {pos : Pos} {as : Rho → Option (List D)} {t : Rho → Option Bool} {c : Expr}
theorem pss_nilF : PFSs X K [] gNext := fun _ => PSs.imp pss_nil fun Dn σ H ⟨Hs₀, H₀, ρ, Hs, out, s, ef, k⟩ => by
  cases ef
  exact k σ H Hs s (Same.refl _)
theorem pss_consF (h1 : PFS X K st g) (h2 : PFSs X K sts h) : PFSs X K (st :: sts) (gSeq g h) := fun hK => PSs.imp (pss_cons (h1 hK) (h2 hK)) fun Dn σ H ⟨Hs₀, H₀, ρ, Hs, out, s, ef, k⟩ => by
  obtain ⟨o, e1, e2⟩ := bind1 ef
  refine ⟨Hs₀, H₀, ρ, Hs, o, s, e1, ?_⟩
  cases o with
  | rt d => cases e2; exact k
  | nx ρ' => exact fun σ' H' Hs' s' q => ⟨Hs₀, H₀, ρ', Hs', out, s', e2, k.weak q⟩
theorem pss_oneF (h1 : PFS X K st g) : PFSs X K [st] g := fun hK => pss_one (h1 hK)
theorem pss_frzF (i : Nat) (h1 : PFSs X K sts g) : PFSs X K sts (gFrz i g) := fun hK pins s σ H Dn I ⟨Hs₀, H₀, ρ, Hs, out, st, ef, k⟩ => by
  cases q : ρ[i]? with
  | none =>
    have e : frz i ρ = ρ := by unfold frz; rw [q]
    unfold gFrz at ef
    rw [e] at ef
    exact h1 hK pins s σ H Dn I ⟨Hs₀, H₀, ρ, Hs, out, st, ef, k⟩
  | some x =>
    cases x with
    | none =>
      have e : frz i ρ = ρ := by unfold frz; rw [q]
      unfold gFrz at ef
      rw [e] at ef
      exact h1 hK pins s σ H Dn I ⟨Hs₀, H₀, ρ, Hs, out, st, ef, k⟩
    | some x =>
      cases x with
      | val d =>
        have e : frz i ρ = ρ := by unfold frz; rw [q]
        unfold gFrz at ef
        rw [e] at ef
        exact h1 hK pins s σ H Dn I ⟨Hs₀, H₀, ρ, Hs, out, st, ef, k⟩
      | ow o =>
        obtain ⟨a, ho, ha, hsa, hHa, r⟩ := st.st.owAt q
        obtain ⟨ob, I2⟩ := Inv.freeze I hHa r
        obtain ⟨Hs', s', q'⟩ := st.frz ob q ha hsa hHa r
        exact h1 hK pins s σ _ Dn I2 ⟨Hs₀, H₀, frz i ρ, Hs', out, s', ef, k.weak q'⟩
theorem ps_setF (i : Nat) {x : Str} {pos' : Pos} (hN : X.N.Nodup) (he : PF X K e f) (hi : X.N[i]? = some x := by rfl) (hx : Loc X.env.scope x := by first | exact Or.inl rfl | exact Or.inr rfl) (hs : swapsWith e (some (.Name x pos')) pos.line X.env = pure false := by rfl)
    (hf : X.fn x = true ∨ X.env.scope.names.lookup x = some .local := by first | exact .inl rfl | exact .inr rfl | assumption) : PFS X K (.Assign [.Name x pos'] e pos) (gSet i f) := fun hK => PS.imp (ps_set hN hi hx (he hK) hs hf) fun Dn σ H ⟨Hs₀, H₀, ρ, Hs, out, s, ef, k⟩ => by
  obtain ⟨d, e1, e2⟩ := bind1 ef
  cases e2
  exact ⟨ρ, Hs, d, s.st, e1, fun v H' Hs' g r => k _ H' Hs' ((s.grow g).set r) g.hs⟩
theorem ps_newF (i : Nat) {x : Str} {pos' lpos : Pos} (hN : X.N.Nodup) (he : PFA X K es as) (hi : X.N[i]? = some x := by rfl) (hx : Loc X.env.scope x := by first | exact Or.inl rfl | exact Or.inr rfl) (hs : swapsWith (.List es lpos) (some (.Name x pos')) pos.line X.env = pure false := by rfl)
    (hf : X.fn x = true ∨ X.env.scope.names.lookup x = some .local := by first | exact .inl rfl | exact .inr rfl | assumption) : PFS X K (.Assign [.Name x pos'] (.List es lpos) pos) (gNew i as) := fun hK => PS.imp (ps_set hN hi hx (pe_lst (he hK)) hs hf) fun Dn σ H ⟨Hs₀, H₀, ρ, Hs, out, s, ef, k⟩ => by
  obtain ⟨ds, e1, e2⟩ := bind1 ef
  split at e2
  · rename_i hz
    cases e2
    exact ⟨ρ, Hs, ds, s.st, e1, fun vs H' Hs' g r => ⟨by rw [← r.length]; exact hz, fun p hp => k _ _ Hs' ((s.grow g).setOwn hp r) g.hs⟩⟩
  · cases e2
theorem ps_retF (he : PF X K e f) : PFS X K (.Return (some e) pos) (gRet f) := fun hK => PS.imp (ps_ret (he hK)) fun Dn σ H ⟨Hs₀, H₀, ρ, Hs, out, s, ef, k⟩ => by
  obtain ⟨d, e1, e2⟩ := bind1 ef
  cases e2
  exact ⟨ρ, Hs, d, s.st, e1, fun v H' Hs' g r => k v H' Hs' (s.gr.trans g) r⟩
theorem ps_ifF {sa sb : List Stmt} (hc : PFT X K c t) (ha : PFSs X K sa g) (hb : PFSs X K sb h) : PFS X K (.If c sa sb pos) (gIf t g h) := fun hK => PS.imp (ps_if (hc hK) (ha hK) (hb hK)) fun Dn σ H ⟨Hs₀, H₀, ρ, Hs, out, s, ef, k⟩ => by
  obtain ⟨b, e1, e2⟩ := bind1 ef
  refine ⟨ρ, Hs, b, s.st, e1, fun H' Hs' gr => ?_⟩
  cases b with
  | true => rw [if_pos rfl] at e2 ⊢; exact ⟨Hs₀, H₀, ρ, Hs', out, s.grow gr, e2, k.weak gr.hs⟩
  | false => rw [if_neg Bool.false_ne_true] at e2 ⊢; exact ⟨Hs₀, H₀, ρ, Hs', out, s.grow gr, e2, k.weak gr.hs⟩
theorem ps_appF (i : Nat) {x : Str} {px apos cpos : Pos} (he : PF X K e f) (hN : X.N[i]? = some x := by rfl) (hv : Vis X.env.scope x := by first | exact Or.inl rfl | exact Or.inr (Or.inl rfl) | exact Or.inr (Or.inr rfl)) (hd : (x == ("__debug__" : Str)) = false := by decide)
    (hcd : (x == ("__classdict__" : Str)) = false := by decide)
    (hbase : attributeBase (.Name x px) "append" X.env (eval (.Name x px) X.env) = eval (.Name x px) X.env := by rfl)
    (hfew : ((backTo cpos (starEach [e] X.env)).all (fun x => !x.1) && (backToKw cpos (keywordEach [] X.env)).all (fun x => x.1.isSome)
      && decide (([e] : List Expr).length + ([] : List Keyword).length + (if ([] : List Keyword).isEmpty then 0 else 1) < 30)) = true := by rfl)
    (hline : (apos.endLine == cpos.line) = true := by rfl) (hst : starEach [e] X.env = (false, eval e X.env) :: starEach [] X.env := by rfl)
    (hs : swapsWith (.Call (.Attribute (.Name x px) "append" apos) [e] [] cpos) none pos.line X.env = pure false := by rfl) :
    PFS X K (.Expr (.Call (.Attribute (.Name x px) "append" apos) [e] [] cpos) pos) (gApp i f) := fun hK => PS.imp (ps_expr (pe_bm (name := "append") PySem.F.plainAttrs_list PySem.F.slot_list_append PySem.F.type_list_append mt_append (pe_var hN hv hd hcd) (pa_cons (he hK) pa_nil hst) hbase hfew hline hst rfl) hs) fun Dn σ H ⟨Hs₀, H₀, ρ, Hs, out, s, ef, k⟩ => by
  subst hK
  obtain ⟨d, e1, e2⟩ := bind1 ef
  split at e2
  · rename_i ds ho
    split at e2
    · rename_i hz
      cases e2
      obtain ⟨a, xs, ha, hsa, hHa, r⟩ := s.st.ownAt ho
      refine ⟨_, ha, .inl ⟨rfl, _, SqL.of hHa⟩, ρ, Hs, d, s.st, e1, fun v H' Hs' g rv => ⟨a, xs, v, rfl, rfl, g.h _ _ hHa, by rw [← r.length]; exact hz, ?_⟩⟩
      exact k _ _ Hs' ((s.grow g).putOwn ho ha ((r.mono g.hs).append (.cons rv .nil))) g.hs
    · cases e2
  · cases e2
noncomputable def ItD (K : PySem.W.Frag) (J : It) (Hs₀ : Hp) (ds : List D) : Prop :=
  ∀ (i : Nat) (Hs H : Hp), Same Hs₀ Hs → Same Hs H → (∀ d, ds[i]? = some d → J.go i H ∧ ∀ x H', J.yld i H x H' → ∃ Hs', Grow Hs H Hs' H' ∧ Rep K Hs' d x) ∧ (ds.length ≤ i → J.stop i H)
noncomputable abbrev Fi := Rho → Option (List D)
noncomputable def tFI (K : PySem.W.Frag) (fi : Fi) : TI := fun σ H R => ∃ ρ Hs ds, StE K Hs H ρ σ ∧ fi ρ = some ds ∧ ∀ J H' Hs', Grow Hs H Hs' H' → ItD K J Hs' ds → R J H'
noncomputable def PFI (X : Cx) (K : PySem.W.Frag) (tg iter : Expr) (fi : Fi) : Prop := X.K = K → PI X tg iter (tFI K fi)
noncomputable def iLst (f : Fe) : Fi := fun ρ => match f ρ with
  | some (.lst ds) => some ds
  | _ => none
noncomputable def iRng (f : Fe) : Fi := fun ρ => match f ρ with
  | some (.int j) => if -(2 ^ 62) ≤ j ∧ j < 2 ^ 62 then some ((List.range j.toNat).map fun (k : Nat) => D.int (k : Int)) else none
  | _ => none
theorem itd_list {a : Addr} {xs : List V} {ds : List D} {Hs : Hp} (h : Hs a = some (.lst xs)) (r : Reps K Hs ds xs) : ItD K (Itl K a) Hs ds := by
  intro i Hs1 H s1 s2
  have hH : H a = some (.lst xs) := s2 _ _ (s1 _ _ h)
  refine ⟨fun d e => ?_, fun hl => ⟨xs, SqL.of hH, by rw [← r.length]; exact hl⟩⟩
  obtain ⟨v, h1, h2⟩ := r.get e
  refine ⟨⟨xs, v, SqL.of hH, h1⟩, fun x H' y => ?_⟩
  obtain ⟨e1, y⟩ := y
  subst e1
  have := y xs (SqL.of hH)
  rw [h1] at this
  cases this
  exact ⟨Hs1, Grow.refl s2, h2.mono s1⟩
theorem pi_listF {tg : Expr} (he : PF X K e f) : PFI X K tg e (iLst f) := fun hK => by
  subst hK
  refine PI.imp (pi_list (he rfl)) fun σ H R ⟨ρ, Hs, ds, st, ef, k⟩ => ?_
  unfold iLst at ef
  split at ef
  · rename_i ds' q
    cases ef
    refine ⟨ρ, Hs, _, st, q, fun v H' Hs' g r => ?_⟩
    cases r with
    | @lst a xs _ h1 r1 => exact ⟨a, rfl, ⟨xs, SqL.of (g.sub _ _ h1)⟩, k _ H' Hs' g (itd_list h1 r1)⟩
  · cases ef
theorem itd_range (n : Nat) {Hs : Hp} : ItD K (Itr 0 n) Hs ((List.range n).map fun (k : Nat) => D.int (k : Int)) := by
  intro i Hs1 H s1 s2
  refine ⟨fun d e => ?_, fun hl => show n ≤ i by simpa using hl⟩
  have hi : i < n := by
    have := (List.getElem?_eq_some_iff.mp e).1
    simpa using this
  have hd : d = .int (i : Int) := by
    rw [List.getElem?_map, List.getElem?_range hi] at e
    exact (Option.some.inj e).symm
  subst hd
  refine ⟨hi, fun x H' y => ?_⟩
  obtain ⟨e1, e2⟩ := y
  subst e1 e2
  rw [Int.zero_add]
  exact ⟨Hs1, Grow.refl s2, .int _⟩
theorem pi_rangeF {tg a : Expr} {p : Pos} (hg : Gl X "range") (hm : X.mg "range" = none) (ha : PF X K a f) (hs : starEach [a] X.env = [(false, eval a X.env)] := by rfl) : PFI X K tg (.Call (.Name "range" p) [a] [] pos) (iRng f) := fun hK => by
  refine PI.imp (pi_range1 hg hm (pa_cons (ha hK) pa_nil hs) hs) fun σ H R ⟨ρ, Hs, ds, st, ef, k⟩ => ?_
  unfold iRng at ef
  split at ef
  · rename_i j q
    split at ef
    · rename_i hj
      cases ef
      refine ⟨ρ, Hs, _, st, q, fun v H' Hs' g r => ?_⟩
      cases r
      exact ⟨j, rfl, hj.1, hj.2, k _ H' Hs' g (itd_range _)⟩
    · cases ef
  · cases ef
noncomputable abbrev Ft := D → Rho → Option Rho
noncomputable def OwnKept (ρ : Rho) (σ : St) (ρ' : Rho) (σ' : St) : Prop := ∀ (i : Nat) (o : Ow), ρ'[i]? = some (some (.ow o)) → ρ[i]? = some (some (.ow o)) ∧ σ'[i]? = σ[i]?
theorem OwnKept.set {ρ : Rho} {σ : St} {i : Nat} {d : D} {v : V} : OwnKept ρ σ (ρ.set i (some (.val d))) (σ.set i (some v)) := fun j ds h => by
  obtain ⟨n, h⟩ := own_ne h (fun es z => by cases z)
  exact ⟨h, List.getElem?_set_ne (Ne.symm n)⟩
theorem OwnKept.trans {ρ ρ1 ρ2 : Rho} {σ σ1 σ2 : St} (a : OwnKept ρ σ ρ1 σ1) (b : OwnKept ρ1 σ1 ρ2 σ2) : OwnKept ρ σ ρ2 σ2 := fun i ds h =>
  let ⟨h1, e1⟩ := b i ds h; let ⟨h2, e2⟩ := a i ds h1; ⟨h2, e1.trans e2⟩
noncomputable def tFG (K : PySem.W.Frag) (ft : Ft) : TG := fun v σ H Q => ∃ ρ Hs d ρ', StE K Hs H ρ σ ∧ Rep K Hs d v ∧ ft d ρ = some ρ' ∧
  ∀ σ' H' Hs', Grow Hs H Hs' H' → StE K Hs' H' ρ' σ' → (∀ Hs₀ H₀, St1 K Hs₀ H₀ Hs H ρ σ → St1 K Hs₀ H₀ Hs' H' ρ' σ') → OwnKept ρ σ ρ' σ' → Q σ' H'
noncomputable def PFG (X : Cx) (K : PySem.W.Frag) (tg : Expr) (ft : Ft) : Prop := X.K = K → PG X tg (tFG K ft)
noncomputable def tName (i : Nat) : Ft := fun d ρ => some (ρ.set i (some (.val d)))
noncomputable def tTwo (i j : Nat) : Ft := fun d ρ => match d with
  | .tup [x, y] => some ((ρ.set i (some (.val x))).set j (some (.val y)))
  | _ => none
theorem pg_nameF (i : Nat) {x : Str} (hN : X.N.Nodup) (hi : X.N[i]? = some x := by rfl) (hx : Loc X.env.scope x := by first | exact Or.inl rfl | exact Or.inr rfl) (hf : X.fn x = true ∨ X.env.scope.names.lookup x = some .local := by first | exact .inl rfl | exact .inr rfl | assumption) :
    PFG X K (.Name x pos) (tName i) := fun _ => PG.imp (pg_name hN hi hx hf) fun v σ H Q ⟨ρ, Hs, d, ρ', st, r, ef, k⟩ => by
  cases ef
  exact k _ H Hs (Grow.refl st.sub) (st.set r) (fun _ _ s => s.set r) OwnKept.set
theorem pg_twoF (i j : Nat) {x y : Str} {px py : Pos} {kt : Nat} (hc : X.calm = true) (hN : X.N.Nodup) (hi : X.N[i]? = some x := by rfl) (hj : X.N[j]? = some y := by rfl) (hx : Loc X.env.scope x := by first | exact Or.inl rfl | exact Or.inr rfl) (hy : Loc X.env.scope y := by first | exact Or.inl rfl | exact Or.inr rfl)
    (hf : X.fn x = true ∨ X.env.scope.names.lookup x = some .local := by first | exact .inl rfl | exact .inr rfl | assumption) (hf2 : X.fn y = true ∨ X.env.scope.names.lookup y = some .local := by first | exact .inl rfl | exact .inr rfl | assumption)
    (hn : (assignEach [Expr.Name x px, Expr.Name y py] X.env).length = 2 := by rfl) (hst : (assignEach [Expr.Name x px, Expr.Name y py] X.env).findIdx? (·.1) = none := by rfl)
    (h1 : (assignEach [Expr.Name x px, Expr.Name y py] X.env).map (·.2) = assign (Expr.Name x px) X.env :: (assignEach [Expr.Name y py] X.env).map (·.2) := by rfl)
    (h2 : (assignEach [Expr.Name y py] X.env).map (·.2) = assign (Expr.Name y py) X.env :: (assignEach [] X.env).map (·.2) := by rfl) :
    PFG X K (.Tuple [.Name x px, .Name y py] kt pos) (tTwo i j) := fun hK => by
  subst hK
  refine PG.imp (pg_tup hc (pgs_cons (pg_name hN hi hx hf) (pgs_cons (pg_name hN hj hy hf2) pgs_nil h2) h1) hn hst) fun v σ H Q ⟨ρ, Hs, d, ρ', st, r, ef, k⟩ => ?_
  unfold tTwo at ef
  split at ef
  · rename_i dx dy
    cases ef
    cases r with
    | @tup a xs _ h r =>
      cases r with
      | cons r1 r =>
        cases r with
        | cons r2 r =>
          cases r
          refine ⟨a, _, rfl, SqT.of (st.sub _ _ h), rfl, _, _, rfl, _, _, rfl, rfl, ?_⟩
          exact k _ H Hs (Grow.refl st.sub) ((st.set (s := .val dx) r1).set (s := .val dy) r2) (fun _ _ s => (s.set r1).set r2) (OwnKept.set.trans OwnKept.set)
  · cases ef
noncomputable def loopD (ft : Ft) (g : Fs) : List D → Fs
  | [] => fun ρ => some (.nx ρ)
  | d :: ds => fun ρ => (ft d ρ).bind fun ρ1 => (g ρ1).bind fun o => match o with
    | .nx ρ2 => loopD ft g ds ρ2
    | .rt d => some (.rt d)
noncomputable def gFor (fi : Fi) (ft : Ft) (g : Fs) : Fs := fun ρ => (fi ρ).bind fun ds => loopD ft g ds ρ
theorem ps_forF {tg iter : Expr} {fi : Fi} {ft : Ft} (hx : X.xe = fun _ _ => False) (hc : X.calm = true) (hi : PFI X K tg iter fi) (hg : PFG X K tg ft) (hb : PFSs X K body g)
    (hs : ∀ x, foldedSetIterable iter X.env x = pure x := by intro _; rfl) : PFS X K (.For tg iter body [] pos) (gFor fi ft g) := fun hK => by
  have hp : PassesOwn (model X.prog X.w) X.A X.env X.xe := by rw [hx]; exact PassesOwn.never
  refine PS.imp (ps_for hp hc (hi hK) (hg hK) (hb hK) hs) fun Dn σ H ⟨Hs₀, H₀, ρ, Hs, out, s, ef, k⟩ => ?_
  obtain ⟨ds, e1, e2⟩ := bind1 ef
  refine ⟨ρ, Hs, ds, s.st, e1, fun J H1 Hs1 g1 it => ?_⟩
  refine ⟨fun i m σ H => ∃ ρ Hs, St1 K Hs₀ H₀ Hs H ρ σ ∧ Same Hs1 Hs ∧ m = ds.length - i ∧ i ≤ ds.length ∧ loopD ft g (ds.drop i) ρ = some out, ⟨_, ρ, Hs1, s.grow g1, Same.refl _, rfl, Nat.zero_le _, e2⟩, ?_⟩
  rintro i m σ2 H2 ⟨ρ2, Hs2, s2, sm, rfl, hi, e3⟩
  obtain ⟨go, stop⟩ := it i Hs2 H2 sm s2.st.sub
  by_cases hlt : i < ds.length
  · right
    have hd : ds[i]? = some ds[i] := by simp [hlt]
    obtain ⟨go1, yl⟩ := go _ hd
    rw [List.drop_eq_getElem_cons hlt] at e3
    obtain ⟨ρ3, e4, e5⟩ := bind1 e3
    obtain ⟨o, e6, e7⟩ := bind1 e5
    refine ⟨go1, fun σ' H' => ∃ ρ' Hs', St1 K Hs₀ H₀ Hs' H' ρ' σ' ∧ Same Hs1 Hs' ∧ loopD ft g (ds.drop (i + 1)) ρ' = some out, fun σ' H' ⟨ρ', Hs', s', sm', q⟩ => ⟨ds.length - (i + 1), by omega, ρ', Hs', s', sm', rfl, hlt, q⟩, fun x H' y => ?_⟩
    obtain ⟨Hs3, g3, r3⟩ := yl x H' y
    refine ⟨ρ2, Hs3, _, ρ3, (s2.grow g3).st, r3, e4, fun σ4 H4 Hs4 g4 _ up _ => ?_⟩
    refine ⟨Hs₀, H₀, ρ3, Hs4, o, up _ _ (s2.grow g3), e6, ?_⟩
    cases o with
    | rt d => cases e7; exact k
    | nx ρ5 => exact fun σ5 H5 Hs5 s5 q => ⟨ρ5, Hs5, s5, (sm.trans (g3.hs.trans g4.hs)).trans q, e7⟩
  · left
    have hi' : i = ds.length := by omega
    subst hi'
    rw [List.drop_length] at e3
    cases e3
    exact ⟨stop (Nat.le_refl _), k _ _ _ s2 (g1.hs.trans sm)⟩
end
end DL
set_option maxHeartbeats 4000000
namespace DL
open PySem PySem.Spec L2
noncomputable def rhoIn (n : Nat) (fr : List (Str × Nat)) (ρ : Rho) : Rho := List.replicate n none ++ fr.map fun p => (ρ[p.2]?).join
noncomputable def reset (n : Nat) (ρ : Rho) : Rho := List.replicate (min n ρ.length) none ++ ρ.drop n
noncomputable def compD (n : Nat) (ft : Ft) (t : Rho → Option Bool) (f : Fe) : List D → Rho → Option (List D)
  | [], _ => some []
  | d :: ds, ρ => (ft d ρ).bind fun ρ1 => (t ρ1).bind fun b => if b then (f ρ1).bind fun y => (compD n ft t f ds (reset n ρ1)).bind fun ys => some (y :: ys) else compD n ft t f ds (reset n ρ1)
noncomputable def fComp (n : Nat) (fr : List (Str × Nat)) (fi : Fi) (ft : Ft) (t : Rho → Option Bool) (f : Fe) : Fe := fun ρ => (fi ρ).bind fun ds => if ds.length ≤ sizeLine then (compD n ft t f ds (rhoIn n fr ρ)).bind fun ys => some (.lst ys) else none
noncomputable def bTrue : Rho → Option Bool := fun _ => some true
noncomputable def PFIf (X : Cx) (K : PySem.W.Frag) (ifs : List Expr) (t : Rho → Option Bool) : Prop := X.K = K → PIfs X ifs (tFT K t)
theorem PIfs.imp {X : Cx} {e : List Expr} {t t' : TT} (h : PIfs X e t) (i : ∀ σ H Q, t' σ H Q → t σ H Q) : PIfs X e t' := fun pins s σ H Q I q => h pins s σ H Q I (i σ H Q q)
theorem if_nil {X : Cx} {K : PySem.W.Frag} : PFIf X K [] bTrue := fun _ => PIfs.imp pifs_nil fun σ H Q ⟨ρ, Hs, b, st, ef, k⟩ => by
  cases ef
  exact k H Hs (Grow.refl st.sub)
theorem if_one {X : Cx} {K : PySem.W.Frag} {c : Expr} {t : Rho → Option Bool} (h : PFT X K c t) : PFIf X K [c] t := fun hK => pifs_one (h hK)
section
variable {K : PySem.W.Frag} {Hs H : Hp} {ρ : Rho} {σ : St}
theorem StE.inn (n : Nat) (fr : List (Str × Nat)) (s : StE K Hs H ρ σ) : StE K Hs H (rhoIn n fr ρ) (compSt n fr σ) := by
  refine ⟨s.sub, by unfold rhoIn compSt; simp, fun i t e => ?_⟩
  unfold rhoIn at e
  unfold compSt
  by_cases hi : i < n
  · rw [List.getElem?_append_left (by simpa using hi), List.getElem?_replicate, if_pos hi] at e
    cases e
  · rw [List.getElem?_append_right (by simp; lia), List.length_replicate, List.getElem?_map] at e
    rw [List.getElem?_append_right (by simp; lia), List.length_replicate, List.getElem?_map]
    cases q : fr[i - n]? with
    | none => rw [q] at e; cases e
    | some p =>
      rw [q] at e
      have e' : (ρ[p.2]?).join = some t := Option.some.inj e
      have e2 : ρ[p.2]? = some (some t) := by
        cases r : ρ[p.2]? with
        | none => rw [r] at e'; cases e'
        | some z => rw [r] at e'; simp at e'; rw [e']
      obtain ⟨v, h1, h2⟩ := s.slot p.2 t e2
      refine ⟨v, ?_, h2⟩
      show some ((σ[p.2]?).join) = some (some v)
      rw [h1]
      rfl
theorem reset_get {n i : Nat} {s : Sl} (e : (reset n ρ)[i]? = some (some s)) : ρ[i]? = some (some s) := by
  unfold reset at e
  by_cases hi : i < min n ρ.length
  · rw [List.getElem?_append_left (by simpa using hi), List.getElem?_replicate, if_pos hi] at e
    cases e
  · rw [List.getElem?_append_right (by simp; lia), List.length_replicate, List.getElem?_drop] at e
    by_cases hn : n ≤ ρ.length
    · rw [Nat.min_eq_left hn] at e hi
      rw [show n + (i - n) = i by lia] at e
      exact e
    · rw [Nat.min_eq_right (by lia)] at e
      rw [List.getElem?_eq_none (by lia)] at e
      cases e
theorem StE.reset (n : Nat) (s : StE K Hs H ρ σ) : StE K Hs H (DL.reset n ρ) σ := by
  refine s.weak ?_ fun i t e => reset_get e
  unfold DL.reset
  rw [List.length_append, List.length_replicate, List.length_drop]
  lia
end
section
variable {X : Cx} {K : PySem.W.Frag} {sc : Scope} {own : List Str} {fr : List (Str × Nat)} {tg elt iter : Expr} {ifs : List Expr} {fi : Fi} {ft : Ft} {t : Rho → Option Bool} {f : Fe} {pos : Pos}
theorem comp_rd {σ : St} {H : Hp} {Q : VK} {ρ : Rho} {Hs : Hp} {J : It} {ds ys : List D} (st : StE K Hs H ρ σ) (it : ItD K J Hs ds) (hz : ds.length ≤ sizeLine) (e : compD own.length ft t f ds (rhoIn own.length fr ρ) = some ys)
    (k : ∀ v H' Hs', Grow Hs H Hs' H' → Rep K Hs' (.lst ys) v → Q v H') : rdComp own.length fr (tFG K ft) (tFT K t) (tF K f) σ J H Q := by
  intro l hl
  have hsl : Hs l = none := st.sub.free hl
  refine ⟨fun i m vs σ' H' => ∃ ρ' Hs' zs rest, StE K Hs' H' ρ' σ' ∧ (∀ (j : Nat) (es : Ow) (a : Addr), ρ'[j]? = some (some (.ow es)) → σ'[j]? = some (some (.ref a)) → a ≠ l) ∧ Grow Hs H Hs' H' ∧ Hs' l = none ∧ H' l = some (.lst vs) ∧ Reps K Hs' zs vs ∧ m = ds.length - i ∧ i ≤ ds.length ∧ zs.length ≤ i ∧ compD own.length ft t f (ds.drop i) ρ' = some rest ∧ zs ++ rest = ys, ?_, ?_⟩
  · have sub : Same Hs (upd H l (.lst [])) := sm_updR st.sub hsl
    have g0 : Grow Hs H Hs (upd H l (.lst [])) := ⟨Same.refl _, sm_upd hl, sub, fun b h e => absurd e h⟩
    have ap0 : ∀ (j : Nat) (es : Ow) (a : Addr), (rhoIn own.length fr ρ)[j]? = some (some (.ow es)) → (compSt own.length fr σ)[j]? = some (some (.ref a)) → a ≠ l := fun j es a h1 h2 z => by
      obtain ⟨a', xs, q1, q2, q3, q4⟩ := (st.inn own.length fr).owAt h1
      rw [h2] at q1
      cases q1
      rw [z, hl] at q3
      cases q3
    exact ⟨_, _, Hs, [], ys, (st.inn _ _).grow g0, ap0, g0, hsl, upd_same, .nil, rfl, Nat.zero_le _, Nat.le_refl _, e, rfl⟩
  · rintro i m vs σ1 H1 ⟨ρ1, Hs1, zs, rest, s1, ap1, g1, n1, h1, r1, rfl, hi, hzs, e1, ee⟩
    obtain ⟨go, stop⟩ := it i Hs1 H1 g1.hs s1.sub
    by_cases hlt : i < ds.length
    · right
      have hd : ds[i]? = some ds[i] := by simp [hlt]
      obtain ⟨go1, yl⟩ := go _ hd
      refine ⟨go1, fun x H2 y => ?_⟩
      obtain ⟨Hs2, g2, r2⟩ := yl x H2 y
      rw [List.drop_eq_getElem_cons hlt] at e1
      obtain ⟨ρ3, e3, e4⟩ := bind1 e1
      obtain ⟨b, e5, e6⟩ := bind1 e4
      have keepN : ∀ {Ha Hsa Hb Hsb : Hp}, Grow Hsa Ha Hsb Hb → Hsa l = none → (∃ o, Ha l = some o) → Hsb l = none := fun {Ha Hsa Hb Hsb} g hn ⟨o, ho⟩ => by
        cases q : Hsb l with
        | none => rfl
        | some u =>
          have := g.new l (by rw [q]; simp) hn
          rw [ho] at this; cases this
      have n2 := keepN g2 n1 ⟨_, h1⟩
      refine ⟨ρ1, Hs2, _, ρ3, s1.grow g2, r2, e3, fun σ4 H4 Hs4 g4 s4 _ ok4 => ?_⟩
      have ap4 : ∀ (j : Nat) (es : Ow) (a : Addr), (reset own.length ρ3)[j]? = some (some (.ow es)) → σ4[j]? = some (some (.ref a)) → a ≠ l := fun j es a q1 q2 => by
        obtain ⟨q3, q4⟩ := ok4 j es (reset_get q1)
        exact ap1 j es a q3 (q4 ▸ q2)
      have h2 := g2.h _ _ h1
      have n4 := keepN g4 n2 ⟨_, h2⟩
      have h4 := g4.h _ _ h2
      refine ⟨ρ3, Hs4, b, s4, e5, fun H5 Hs5 g5 => ?_⟩
      have n5 := keepN g5 n4 ⟨_, h4⟩
      have h5 := g5.h _ _ h4
      have gg := ((g1.trans g2).trans g4).trans g5
      have r5 := ((r1.mono g2.hs).mono g4.hs).mono g5.hs
      cases b with
      | false =>
        rw [if_neg Bool.false_ne_true] at e6
        refine iteF ?_
        exact ⟨ds.length - (i + 1), by lia, _, Hs5, zs, rest, (s4.grow g5).reset _, ap4, gg, n5, h5, r5, rfl, hlt, Nat.le_succ_of_le hzs, e6, ee⟩
      | true =>
        rw [if_pos rfl] at e6
        refine iteT ?_
        obtain ⟨y', e7, e8⟩ := bind1 e6
        obtain ⟨ys', e9, e10⟩ := bind1 e8
        cases e10
        refine ⟨ρ3, Hs5, y', s4.grow g5, e7, fun v H6 Hs6 g6 r6 => ?_⟩
        have n6 := keepN g6 n5 ⟨_, h5⟩
        have h6 := g6.h _ _ h5
        have lenv := r1.length
        refine ⟨h6, by lia, ds.length - (i + 1), by lia, _, Hs6, zs ++ [y'], ys', ?_, ap4, ?_, n6, upd_same, (r5.mono g6.hs).append (.cons r6 .nil), rfl, hlt, by rw [List.length_append]; exact Nat.succ_le_succ hzs, e9, by rw [List.append_assoc]; exact ee⟩
        · have s6 := ((s4.grow g5).grow g6).reset own.length
          refine ⟨sm_updR s6.sub n6, s6.len, fun j sl ej => ?_⟩
          obtain ⟨w, q1, q2⟩ := s6.slot j sl ej
          refine ⟨w, q1, ?_⟩
          cases sl with
          | val d => exact q2
          | ow es =>
            obtain ⟨a, us, rfl, k1, k2, k3⟩ := q2
            exact ⟨a, us, rfl, k1, by rw [upd_ne (ap4 j es a ej q1)]; exact k2, k3⟩
        · have g7 := gg.trans g6
          have hH : ∀ b o, H b = some o → b ≠ l := fun b o ho z => by rw [z, hl] at ho; cases ho
          exact ⟨g7.hs, fun b o ho => by rw [upd_ne (hH b o ho)]; exact g7.h b o ho, sm_updR g7.sub n6, g7.new⟩
    · left
      have hi' : i = ds.length := by lia
      subst hi'
      rw [List.drop_length] at e1
      cases e1
      rw [List.append_nil] at ee
      subst ee
      refine ⟨stop (Nat.le_refl _), ?_⟩
      have hs : Same Hs1 (upd Hs1 l (.lst vs)) := sm_upd n1
      refine k _ H1 (upd Hs1 l (.lst vs)) ⟨g1.hs.trans hs, g1.h, ?_, ?_⟩ (.lst upd_same (r1.mono hs))
      · intro b o ho
        by_cases hb : b = l
        · subst hb; rw [upd_same] at ho; cases ho; exact h1
        · rw [upd_ne hb] at ho; exact g1.sub b o ho
      · intro b hb he
        by_cases hb2 : b = l
        · rw [hb2]; exact hl
        · rw [upd_ne hb2] at hb; exact g1.new b hb he
theorem pf_comp (hc : X.calm = true) (S : CScope X sc own fr) (hi : PFI X K tg iter fi) (hg : ∀ s H pins fp, PFG (compCx X sc own fr s H pins fp) K tg ft) (ht : ∀ s H pins fp, PFIf (compCx X sc own fr s H pins fp) K ifs t)
    (he : ∀ s H pins fp, PF (compCx X sc own fr s H pins fp) K elt f) (hs : ∀ x, foldedSetIterable iter X.env x = pure x := by intro _; rfl) :
    PF X K (.ListComp elt [⟨tg, iter, ifs, 0⟩] sc pos) (fComp own.length fr fi ft t f) := fun hK => by
  refine PE.imp (pe_comp hc S (hi hK) (fun s H pins fp => hg s H pins fp hK) (fun s H pins fp => ht s H pins fp hK) (fun s H pins fp => he s H pins fp hK) hs) fun σ H Q ⟨ρ, Hs, d, st, ef, k⟩ => ?_
  obtain ⟨ds, e1, e2⟩ := bind1 ef
  split at e2
  · rename_i hz
    obtain ⟨ys, e3, e4⟩ := bind1 e2
    cases e4
    exact ⟨ρ, Hs, ds, st, e1, fun J H' Hs' g it => comp_rd (st.grow g) it hz e3 fun v H2 Hs2 g2 => k v H2 Hs2 (g.trans g2)⟩
  · cases e2
theorem ps_compF (i : Nat) {x : Str} {px spos : Pos} (hc : X.calm = true) (hN : X.N.Nodup) (S : CScope X sc own fr) (hi : PFI X K tg iter fi) (hg : ∀ s H pins fp, PFG (compCx X sc own fr s H pins fp) K tg ft) (ht : ∀ s H pins fp, PFIf (compCx X sc own fr s H pins fp) K ifs t)
    (he : ∀ s H pins fp, PF (compCx X sc own fr s H pins fp) K elt f) (hix : X.N[i]? = some x := by rfl) (hx : Loc X.env.scope x := by first | exact Or.inl rfl | exact Or.inr rfl)
    (hsw : swapsWith (.ListComp elt [⟨tg, iter, ifs, 0⟩] sc pos) (some (.Name x px)) spos.line X.env = pure true := by rfl) (hs : ∀ x, foldedSetIterable iter X.env x = pure x := by intro _; rfl)
    (hf : X.fn x = true ∨ X.env.scope.names.lookup x = some .local := by first | exact .inl rfl | exact .inr rfl | assumption) :
    PFS X K (.Assign [.Name x px] (.ListComp elt [⟨tg, iter, ifs, 0⟩] sc pos) spos) (gSet i (fComp own.length fr fi ft t f)) := fun hK => by
  refine PS.imp (ps_comp hc hN hix hx S (hi hK) (fun s H pins fp => hg s H pins fp hK) (fun s H pins fp => ht s H pins fp hK) (fun s H pins fp => he s H pins fp hK) hsw hs hf) fun Dn σ H ⟨Hs₀, H₀, ρ, Hs, out, s, ef, k⟩ => ?_
  obtain ⟨d, ef2, eo⟩ := bind1 ef
  cases eo
  obtain ⟨ds, e1, e2⟩ := bind1 ef2
  split at e2
  · rename_i hz
    obtain ⟨ys, e3, e4⟩ := bind1 e2
    cases e4
    exact ⟨ρ, Hs, ds, s.st, e1, fun J H' Hs' g it => comp_rd (s.st.grow g) it hz e3 fun v H2 Hs2 g2 r => k _ H2 Hs2 ((s.grow (g.trans g2)).set r) (g.trans g2).hs⟩
  · cases e2
end
noncomputable def startR (N : List Str) (ds : List D) : Rho := ds.map (fun d => some (.val d)) ++ List.replicate (N.length - ds.length) none
noncomputable def runD (g : Fs) (ρ : Rho) : Option D := match g ρ with
  | some (.rt d) => some d
  | some (.nx _) => some .non
  | none => none
theorem start_st {K : PySem.W.Frag} {N : List Str} {Hs H : Hp} {ds : List D} {vs : List V} (s : Same Hs H) (r : Reps K Hs ds vs) (hl : ds.length ≤ N.length) : St1 K Hs H Hs H (startR N ds) (L2.start N vs) := by
  have no : ∀ (i : Nat) (es : Ow), (startR N ds)[i]? ≠ some (some (.ow es)) := fun i es e => by
    unfold startR at e
    by_cases hi : i < ds.length
    · rw [List.getElem?_append_left (by simpa using hi), List.getElem?_map] at e
      cases q : ds[i]? with
      | none => rw [q] at e; cases e
      | some d => rw [q] at e; cases e
    · rw [List.getElem?_append_right (by simp; lia), List.getElem?_replicate] at e
      split at e <;> cases e
  refine ⟨⟨s, ?_, fun i t e => ?_⟩, Grow.refl s, fun i es a h => absurd h (no i es), fun i j es fs a h => absurd h (no i es)⟩
  · unfold startR L2.start
    simp [r.length]
  · unfold startR at e
    unfold L2.start
    by_cases hi : i < ds.length
    · rw [List.getElem?_append_left (by simpa using hi), List.getElem?_map] at e
      cases q : ds[i]? with
      | none => rw [q] at e; cases e
      | some d =>
        rw [q] at e
        cases e
        obtain ⟨v, h1, h2⟩ := r.get q
        refine ⟨v, ?_, h2⟩
        rw [List.getElem?_append_left (by rw [List.length_map, ← r.length]; exact hi), List.getElem?_map, h1]
        rfl
    · rw [List.getElem?_append_right (by simp; lia), List.getElem?_replicate] at e
      split at e <;> cases e
section
variable {P : Program} {w : World} {K : PySem.W.Frag} {mg : Str → Option Value} {base : Heap}
theorem fn_F {x qual : Str} {st : Stmt} {f : Addr} {fd : FuncData} {N ps : List Str} {k : Nat} {F : List D → Option D} {g : Fs} (U : Fun K x qual st f fd) (S : FnScope N ps (defScope st)) (hlen : ∀ ds d, F ds = some d → ds.length = ps.length)
    (hbody : ∀ (cdv : Value) (A : Around) (outer : List Env) (s : Shared) (H : Hp) (E : XK), Room k (A.deeper (PyProof.Rows.envOfC qual (defScope st) s.heap.objs.size f cdv)) →
      PFSs (cxOf CX0 P w K mg base N qual (defScope st) f cdv A outer s H E).nox K (defBody st) g)
    (hF : ∀ ds d, F ds = some d → runD g (startR N ds) = some d) : FnOk P w K mg base CX0 (k + 1) f fd ps (spF K F) := by
  have hpl : ps.length ≤ N.length := by have := congrArg List.length S.pre; rw [List.length_take] at this; lia
  refine U.ok S (fun vs H Q E ⟨Hs, ds, d, s, r, e, q⟩ => by rw [← r.length]; exact hlen ds d e) fun cdv A outer s H vs Q E hr ⟨Hs, ds, d, sm, r, e, q⟩ => ?_
  refine ⟨_, hbody cdv A outer s H E hr rfl, ?_⟩
  have e2 := hF ds d e
  have hl := hlen ds d e
  unfold runD at e2
  have s0 : St1 K Hs H Hs H (startR N ds) (L2.start N vs) := start_st sm r (by lia)
  split at e2
  · rename_i d' q1
    cases e2
    exact ⟨Hs, H, _, Hs, _, s0, q1, fun v H' Hs' g rv => q v H' Hs' g rv⟩
  · rename_i ρ' q1
    cases e2
    exact ⟨Hs, H, _, Hs, _, s0, q1, fun σ' H' Hs' s' _ => q _ H' Hs' s'.gr .non⟩
  · cases e2
theorem df_F {x : Str} {st : Stmt} {f : Addr} {fd : FuncData} {N ps : List Str} {k : Nat} {F : List D → Option D} {g : Fs} (hm : mg x = some (.ref f)) (U : Fun K x x st f fd) (hb : Binds K fd ps []) (S : FnScope N ps (defScope st)) (hlen : ∀ ds d, F ds = some d → ds.length = ps.length)
    (hbody : ∀ (cdv : Value) (A : Around) (outer : List Env) (s : Shared) (H : Hp) (E : XK), Room k (A.deeper (PyProof.Rows.envOfC x (defScope st) s.heap.objs.size f cdv)) →
      PFSs (cxOf CX0 P w K mg base N x (defScope st) f cdv A outer s H E).nox K (defBody st) g)
    (hF : ∀ ds d, F ds = some d → runD g (startR N ds) = some d) : Df P w K mg base (k + 1) x ps F :=
  ⟨f, fd, hm, U.kp, hb, fn_F U S hlen hbody hF⟩
end
end DL
set_option maxHeartbeats 4000000
namespace L2
open PySem PySem.Spec PyProof.Rows
section
variable {X : Cx}
theorem vals_bl : ∀ {bs : List Bool} {us : List Value}, Vals (bs.map V.bl) us → us = bs.map Value.bool
  | [], _, .nil => rfl
  | b :: bs, _, .cons r rs => by rw [vals_bl rs, show _ = Value.bool b from r]; rfl
theorem call_all_list (hc : X.calm = true) : CallR X (.builtin "all") (fun xs H Q => ∃ (a : Addr) (bs : List Bool), xs = [.ref a] ∧ SqL X.K H a (bs.map V.bl) ∧ Q (.bl (bs.all id)) H) := by
  intro pins s σ H xs us Q I r h
  obtain ⟨a, bs, rfl, hq, q⟩ := h
  obtain ⟨u, rfl, rx⟩ := vals1 r
  cases rx
  obtain ⟨its, rv, p, hz⟩ := I.list hq
  have e := vals_bl rv
  subst e
  refine call_all_walk (wpAny_pyIter_list p.isList ?_)
  have lt : a < s.heap.objs.size := by obtain ⟨o, e, _⟩ := p.isList; exact Heap.lt_size e
  refine ⟨_, _, _, _, _, _, fun i => (bs[i]?).getD true, rfl, Walks.list (prog := X.prog) (w := X.w) (A := X.A.in1) (I.ok.hd hc) s.heap.objs.size a (Nat.ne_of_lt lt) (bs.map Value.bool).toArray, ⟨⟨_, Heap.get?_push_size _ rfl, rfl, rfl⟩, p.isList.at fun o e => Heap.get?_push_of_some _ e⟩, ?_, fun h' tk kp => ?_⟩
  · intro i v s' Q' E' hv hQ
    have hv' : (bs[i]?).map Value.bool = some v := by simpa using hv
    cases e : bs[i]? with
    | none => rw [e] at hv'; cases hv'
    | some b =>
      rw [e] at hv'
      have hQ' : Q' ((bs[i]?).getD true) s' := hQ
      rw [e] at hQ'
      cases hv'
      exact wpAny_truthy_bool hQ'
  · have kp' : ∀ b o, s.heap.get? b = some o → h'.get? b = some o := fun b o e => kp b o (fun z => Nat.ne_of_lt (Heap.lt_size e) (List.mem_singleton.mp z)) (Heap.get?_push_of_some _ e)
    refine ⟨.bl (bs.all id), H, I.kept (t' := tk) kp', ?_, q⟩
    show Value.bool _ = Value.bool _
    congr 1
    simp only [List.size_toArray, List.length_map]
    rw [Bool.eq_iff_iff, List.all_eq_true, List.all_eq_true]
    constructor
    · intro hh b hb
      obtain ⟨i, hi, e⟩ := List.mem_iff_getElem.mp hb
      have := hh i (List.mem_range.mpr hi)
      rw [List.getElem?_eq_getElem hi] at this
      simpa [e] using this
    · intro hh i hi
      have hi' := List.mem_range.mp hi
      rw [List.getElem?_eq_getElem hi']
      simpa using hh _ (List.getElem_mem hi')
theorem call_sum_list (hc : X.calm = true) : CallR X (.builtin "sum") (fun xs H Q => ∃ (a : Addr) (ns : List Int), xs = [.ref a] ∧ SqL X.K H a (ns.map V.int) ∧ Q (.int ns.sum) H) := by
  intro pins s σ H xs us Q I r h
  obtain ⟨a, ns, rfl, hq, q⟩ := h
  obtain ⟨u, rfl, rx⟩ := vals1 r
  cases rx
  obtain ⟨its, rv, p, hz⟩ := I.list hq
  have hi := intsAre_of rv
  obtain ⟨xs, exs⟩ := hi.allInts.items
  have en : (numsOf its).sum = ns.sum := by rw [hi.numsOf]
  have hl : s.heap.IsList a its.toArray := p.isList
  rw [exs] at hl
  refine sum_intListG (I.ok.hd hc) hl fun h' tk t' hk => ⟨.int ns.sum, H, I.kept (t' := tk) hk, ⟨t', ?_⟩, q⟩
  rw [← en]
  have e2 : its = (its.toArray).toList := rfl
  rw [e2, exs, nums_intItems, preSum_eq, List.take_of_length_le (by simp)]
end
end L2
set_option maxHeartbeats 4000000
namespace DL
open PySem PySem.Spec L2
noncomputable def gAdd : D → D → Option D
  | .int i, .int j => some (.int (i + j))
  | .lst xs, .lst ys => if xs.length + ys.length ≤ sizeLine then some (.lst (xs ++ ys)) else none
  | _, _ => none
noncomputable def gSub : D → D → Option D
  | .int i, .int j => some (.int (i - j))
  | _, _ => none
noncomputable def gMul : D → D → Option D
  | .int i, .int j => if (-(2 ^ 64) < i ∧ i < 2 ^ 64) ∨ (-(2 ^ 64) < j ∧ j < 2 ^ 64) then some (.int (i * j)) else none
  | .lst xs, .int k => if -(2 ^ 63) ≤ k ∧ k < 2 ^ 63 ∧ xs.length * k.toNat ≤ sizeLine then some (.lst (List.replicate k.toNat xs).flatten) else none
  | _, _ => none
noncomputable def gMod : D → D → Option D
  | .int i, .int j => if 0 < j then some (.int (i % j)) else none
  | _, _ => none
noncomputable def gFdiv : D → D → Option D
  | .int i, .int j => if 0 < j ∧ j < 1073741824 then some (.int (i / j)) else none
  | _, _ => none
noncomputable def gNeg : D → Option D
  | .int i => some (.int (-i))
  | _ => none
noncomputable def gLt : D → D → Option D
  | .int i, .int j => some (.bl (decide (i < j)))
  | _, _ => none
noncomputable def gLe : D → D → Option D
  | .int i, .int j => some (.bl (decide (i ≤ j)))
  | _, _ => none
noncomputable def gGt : D → D → Option D
  | .int i, .int j => some (.bl (decide (j < i)))
  | _, _ => none
noncomputable def isNon : D → Bool
  | .non => true
  | _ => false
noncomputable def gIs : D → D → Option D
  | x, .non => some (.bl (isNon x))
  | _, _ => none
section
variable {X : Cx} {K : PySem.W.Frag}
theorem ite_some {α : Type} {c : Prop} [Decidable c] {x z : α} (e : (if c then some x else none) = some z) : c ∧ x = z := by
  split at e
  · rename_i h; exact ⟨h, Option.some.inj e⟩
  · cases e
theorem a_add : Op2 K (fun x y H Q => (rI0 fun i j => .int (i + j)) x y H Q ∨ rCat x y H Q) gAdd := by
  intro Hs H x y z u v Q s rx ry e q
  cases rx with
  | int i =>
    cases ry with
    | int j => cases e; exact .inl ⟨i, j, rfl, rfl, q _ H Hs (Grow.refl s) (.int _)⟩
    | _ => cases e
  | @lst a vs ds h1 r1 =>
    cases ry with
    | @lst b us es h2 r2 =>
      obtain ⟨hz, rfl⟩ := ite_some (show (if ds.length + es.length ≤ sizeLine then some (D.lst (ds ++ es)) else none) = some z from e)
      refine .inr ⟨a, b, vs, us, rfl, rfl, s _ _ h1, s _ _ h2, by rw [← r1.length, ← r2.length]; exact hz, fun p hp => ?_⟩
      have ga := Grow.alloc (o := .lst (vs ++ us)) s hp
      exact q _ _ _ ga (.lst upd_same ((r1.append r2).mono ga.hs))
    | _ => cases e
  | _ => cases e
theorem o_add : OpR X (binaryOp .Add) (fun x y H Q => (rI0 fun i j => .int (i + j)) x y H Q ∨ rCat x y H Q) := op_add.or op_cat
theorem a_sub : Op2 K (rI0 fun i j => .int (i - j)) gSub := by
  intro Hs H x y z u v Q s rx ry e q
  cases rx with
  | int i =>
    cases ry with
    | int j => cases e; exact ⟨i, j, rfl, rfl, q _ H Hs (Grow.refl s) (.int _)⟩
    | _ => cases e
  | _ => cases e
theorem Reps.rep {Hs : Hp} {ds : List D} {vs : List V} (h : Reps K Hs ds vs) : ∀ k : Nat, Reps K Hs (List.replicate k ds).flatten (List.replicate k vs).flatten
  | 0 => .nil
  | k + 1 => by
    rw [List.replicate_succ, List.replicate_succ, List.flatten_cons, List.flatten_cons]
    exact h.append (Reps.rep h k)
theorem a_mul : Op2 K (fun x y H Q => (rI CMul fun i j => .int (i * j)) x y H Q ∨ rRep x y H Q) gMul := by
  intro Hs H x y z u v Q s rx ry e q
  cases rx with
  | int i =>
    cases ry with
    | int j =>
      obtain ⟨hc, rfl⟩ := ite_some (show (if (-(2 ^ 64) < i ∧ i < 2 ^ 64) ∨ (-(2 ^ 64) < j ∧ j < 2 ^ 64) then some (D.int (i * j)) else none) = some z from e)
      exact .inl ⟨i, j, rfl, rfl, hc, q _ H Hs (Grow.refl s) (.int _)⟩
    | _ => cases e
  | @lst a vs ds h1 r1 =>
    cases ry with
    | int k =>
      obtain ⟨hc, rfl⟩ := ite_some (show (if -(2 ^ 63) ≤ k ∧ k < 2 ^ 63 ∧ ds.length * k.toNat ≤ sizeLine then some (D.lst (List.replicate k.toNat ds).flatten) else none) = some z from e)
      refine .inr ⟨a, k, vs, rfl, rfl, s _ _ h1, hc.1, hc.2.1, by rw [← r1.length]; exact hc.2.2, fun p hp => ?_⟩
      have ga := Grow.alloc (o := .lst (List.replicate k.toNat vs).flatten) s hp
      exact q _ _ _ ga (.lst upd_same ((r1.rep _).mono ga.hs))
    | _ => cases e
  | _ => cases e
theorem o_mul : OpR X (binaryOp .Mult) (fun x y H Q => (rI CMul fun i j => .int (i * j)) x y H Q ∨ rRep x y H Q) := op_mul.or op_rep
theorem a_mod : Op2 K (rI (fun _ j => 0 < j) fun i j => .int (i % j)) gMod := by
  intro Hs H x y z u v Q s rx ry e q
  cases rx with
  | int i =>
    cases ry with
    | int j =>
      obtain ⟨hc, rfl⟩ := ite_some (show (if 0 < j then some (D.int (i % j)) else none) = some z from e)
      exact ⟨i, j, rfl, rfl, hc, q _ H Hs (Grow.refl s) (.int _)⟩
    | _ => cases e
  | _ => cases e
theorem a_fdiv : Op2 K (rI CDiv fun i j => .int (i / j)) gFdiv := by
  intro Hs H x y z u v Q s rx ry e q
  cases rx with
  | int i =>
    cases ry with
    | int j =>
      obtain ⟨hc, rfl⟩ := ite_some (show (if 0 < j ∧ j < 1073741824 then some (D.int (i / j)) else none) = some z from e)
      exact ⟨i, j, rfl, rfl, hc, q _ H Hs (Grow.refl s) (.int _)⟩
    | _ => cases e
  | _ => cases e
theorem a_neg : Op1 K (rU fun i => .int (-i)) gNeg := by
  intro Hs H x z u Q s rx e q
  cases rx with
  | int i => cases e; exact ⟨i, rfl, q _ H Hs (Grow.refl s) (.int _)⟩
  | _ => cases e
theorem a_cmp {p : Int → Int → Bool} {g : D → D → Option D} (hg : ∀ x y z, g x y = some z → ∃ i j, x = .int i ∧ y = .int j ∧ z = .bl (p i j)) : Op2 K (rI0 fun i j => .bl (p i j)) g := by
  intro Hs H x y z u v Q s rx ry e q
  obtain ⟨i, j, rfl, rfl, rfl⟩ := hg x y z e
  cases rx
  cases ry
  exact ⟨i, j, rfl, rfl, q _ H Hs (Grow.refl s) (.bl _)⟩
theorem a_lt : Op2 K (rI0 fun i j => .bl (decide (i < j))) gLt := a_cmp fun x y z e => by
  unfold gLt at e
  split at e
  · cases e; exact ⟨_, _, rfl, rfl, rfl⟩
  · cases e
theorem a_le : Op2 K (rI0 fun i j => .bl (decide (i ≤ j))) gLe := a_cmp fun x y z e => by
  unfold gLe at e
  split at e
  · cases e; exact ⟨_, _, rfl, rfl, rfl⟩
  · cases e
theorem a_gt : Op2 K (rI0 fun i j => .bl (decide (j < i))) gGt := a_cmp fun x y z e => by
  unfold gGt at e
  split at e
  · cases e; exact ⟨_, _, rfl, rfl, rfl⟩
  · cases e
theorem isNon_rep {H : Hp} {d : D} {v : V} (r : Rep K H d v) : decide (v = .non) = isNon d := by
  cases r <;> first | rfl | exact decide_eq_false (by intro h; cases h)
theorem a_is : Op2 K (fun x y H Q => y = .non ∧ Q (.bl (decide (x = .non))) H) gIs := by
  intro Hs H x y z u v Q s rx ry e q
  unfold gIs at e
  split at e
  · cases e
    cases ry
    refine ⟨rfl, ?_⟩
    rw [isNon_rep rx]
    exact q _ H Hs (Grow.refl s) (.bl _)
  · cases e
end
end DL
set_option maxHeartbeats 4000000
namespace DL
open PySem PySem.Spec L2
section
variable {X : Cx} {K : PySem.W.Frag}
noncomputable def gLen : List D → Option D
  | [.lst xs] => some (.int xs.length)
  | [.tup xs] => some (.int xs.length)
  | [.scr ns] => some (.int ns.length)
  | _ => none
theorem a_len : OpN K (fun xs H Q => ∃ p ys, xs = [.ref p] ∧ (SqL K H p ys ∨ SqT K H p ys) ∧ Q (.int ys.length) H) gLen := by
  intro Hs H xs z us Q s r e q
  unfold gLen at e
  split at e
  · cases e
    cases r with
    | cons r rs =>
    cases rs
    cases r with
    | @lst a vs ds h r =>
      refine ⟨a, vs, rfl, .inl (SqL.of (s _ _ h)), ?_⟩
      rw [← r.length]
      exact q _ H Hs (Grow.refl s) (.int _)
  · cases e
    cases r with
    | cons r rs =>
    cases rs
    cases r with
    | @tup a vs ds h r =>
      refine ⟨a, vs, rfl, .inr (SqT.of (s _ _ h)), ?_⟩
      rw [← r.length]
      exact q _ H Hs (Grow.refl s) (.int _)
  · cases e
    cases r with
    | cons r rs =>
    cases rs
    cases r with
    | @scr a ns h =>
      refine ⟨a, _, rfl, .inl (s.seq h), ?_⟩
      rw [List.length_map]
      exact q _ H Hs (Grow.refl s) (.int _)
  · cases e
noncomputable def asB : D → Option Bool
  | .bl b => some b
  | _ => none
noncomputable def asI : D → Option Int
  | .int b => some b
  | _ => none
theorem bools_rep {H : Hp} : ∀ {ds : List D} {vs : List V} {bs : List Bool}, Reps K H ds vs → ds.mapM asB = some bs → vs = bs.map V.bl
  | _, _, bs, .nil, e => by cases e; rfl
  | d :: ds, _, bs, .cons r rs, e => by
    rw [List.mapM_cons] at e
    cases r with
    | bl b =>
      cases q : ds.mapM asB with
      | none => rw [q] at e; cases e
      | some cs =>
        rw [q] at e
        have e' : some (b :: cs) = some bs := e
        cases e'
        rw [bools_rep rs q]
        rfl
    | _ => cases e
theorem ints_rep {H : Hp} : ∀ {ds : List D} {vs : List V} {bs : List Int}, Reps K H ds vs → ds.mapM asI = some bs → vs = bs.map V.int
  | _, _, bs, .nil, e => by cases e; rfl
  | d :: ds, _, bs, .cons r rs, e => by
    rw [List.mapM_cons] at e
    cases r with
    | int b =>
      cases q : ds.mapM asI with
      | none => rw [q] at e; cases e
      | some cs =>
        rw [q] at e
        have e' : some (b :: cs) = some bs := e
        cases e'
        rw [ints_rep rs q]
        rfl
    | _ => cases e
noncomputable def gAll : List D → Option D
  | [.lst xs] => (xs.mapM asB).map fun bs => .bl (bs.all id)
  | _ => none
theorem a_all : OpN K (fun xs H Q => ∃ (a : Addr) (bs : List Bool), xs = [.ref a] ∧ SqL K H a (bs.map V.bl) ∧ Q (.bl (bs.all id)) H) gAll := by
  intro Hs H xs z us Q s r e q
  unfold gAll at e
  split at e
  · rename_i ds
    cases r with
    | cons r rs =>
    cases rs
    cases r with
    | @lst a vs ds h r =>
      have e' : (ds.mapM asB).map (fun bs => D.bl (bs.all id)) = some z := e
      cases hb : ds.mapM asB with
      | none => rw [hb] at e'; cases e'
      | some bs =>
        rw [hb] at e'
        cases e'
        have := bools_rep r hb
        subst this
        exact ⟨a, bs, rfl, SqL.of (s _ _ h), q _ H Hs (Grow.refl s) (.bl _)⟩
  · cases e
noncomputable def gSum : List D → Option D
  | [.lst xs] => (xs.mapM asI).map fun ns => .int ns.sum
  | _ => none
theorem a_sum : OpN K (fun xs H Q => ∃ (a : Addr) (ns : List Int), xs = [.ref a] ∧ SqL K H a (ns.map V.int) ∧ Q (.int ns.sum) H) gSum := by
  intro Hs H xs z us Q s r e q
  unfold gSum at e
  split at e
  · rename_i ds
    cases r with
    | cons r rs =>
    cases rs
    cases r with
    | @lst a vs ds h r =>
      have e' : (ds.mapM asI).map (fun bs => D.int bs.sum) = some z := e
      cases hb : ds.mapM asI with
      | none => rw [hb] at e'; cases e'
      | some bs =>
        rw [hb] at e'
        cases e'
        have := ints_rep r hb
        subst this
        exact ⟨a, bs, rfl, SqL.of (s _ _ h), q _ H Hs (Grow.refl s) (.int _)⟩
  · cases e
noncomputable def gMax : List D → Option D
  | [.int i, .int j] => some (.int (if j > i then j else i))
  | _ => none
theorem a_max : OpN K (fun xs H Q => ∃ i j, xs = [.int i, .int j] ∧ Q (.int (if j > i then j else i)) H) gMax := by
  intro Hs H xs z us Q s r e q
  unfold gMax at e
  split at e
  · cases e
    cases r with
    | cons r rs =>
    cases rs with
    | cons r2 rs =>
    cases rs
    cases r
    cases r2
    exact ⟨_, _, rfl, q _ H Hs (Grow.refl s) (.int _)⟩
  · cases e
end
end DL
set_option maxHeartbeats 4000000
namespace DL
open PySem PySem.Spec L2
section
variable {X : Cx} {K : PySem.W.Frag} {a b e : Expr} {f h : Fe} {pos p : Pos} {elts : List Expr} {kt : Nat} {tp : Pos}
noncomputable def tyD : D → Option String
  | .non => some "NoneType"
  | .bl _ => some "bool"
  | .int _ => some "int"
  | .str _ => some "str"
  | .lst _ => some "list"
  | .tup _ => some "tuple"
  | _ => none
noncomputable def subT (t T : String) : Bool := t == T || (t == "bool" && T == "int")
noncomputable def gInst (T : String) (d : D) : Option D := (tyD d).map fun t => .bl (subT t T)
structure KitOk (K : PySem.W.Frag) (T : String) : Prop where
  ok : ∀ t, (t = "NoneType" ∨ t = "bool" ∨ t = "int" ∨ t = "str" ∨ t = "list" ∨ t = "tuple") → PySem.W.kitOne K (.type t) (.type T) = some (subT t T)
theorem ty_rep {Hs H : Hp} {d : D} {v : V} {t : String} (s : Same Hs H) (r : Rep K Hs d v) (e : tyD d = some t) : TyOf K H v (.type t) ∧ (t = "NoneType" ∨ t = "bool" ∨ t = "int" ∨ t = "str" ∨ t = "list" ∨ t = "tuple") := by
  cases r with
  | non => cases e; exact ⟨.non, .inl rfl⟩
  | bl b => cases e; exact ⟨.bl b, .inr (.inl rfl)⟩
  | int b => cases e; exact ⟨.int b, .inr (.inr (.inl rfl))⟩
  | str b => cases e; exact ⟨.str b, .inr (.inr (.inr (.inl rfl)))⟩
  | lst h r => cases e; exact ⟨.lst (s _ _ h), .inr (.inr (.inr (.inr (.inl rfl))))⟩
  | tup h r => cases e; exact ⟨.tup (s _ _ h), .inr (.inr (.inr (.inr (.inr rfl))))⟩
  | _ => cases e
theorem pf_inst {T : String} {x : Str} {px p2 : Pos} (hg : Gl X "isinstance") (hm : X.mg "isinstance" = none) (hgx : Gl X x) (hmx : X.mg x = none) (hv : bootBuiltins x = some (.type T)) (kk : KitOk K T) (ha : PF X K a f)
    (hn : x ≠ "__name__" := by decide) (hdb : (x == ("__debug__" : Str)) = false := by decide)
    (hs : starEach [a, .Name x p2] X.env = (false, eval a X.env) :: starEach [.Name x p2] X.env := by rfl) (hs2 : starEach [.Name x p2] X.env = (false, eval (.Name x p2) X.env) :: starEach [] X.env := by rfl) (hpl : (backTo pos (starEach [.Name x p2] X.env)).any (·.1) = false := by rfl) :
    PF X K (.Call (.Name "isinstance" px) [a, .Name x p2] [] pos) (f1 (gInst T) f) := fun hK => by
  subst hK
  have cr : CallR X (.builtin "isinstance") (fun xs H Q => ∃ y t b, xs = [y, .ty T] ∧ TyOf X.K H y t ∧ PySem.W.kitOne X.K t (.type T) = some b ∧ Q (.bl b) H) := by
    intro pins s σ H xs us Q I r h
    obtain ⟨y, t, b, rfl, ty, ek, q⟩ := h
    obtain ⟨u, w', rfl, r1, r2⟩ := vals2 r
    cases r2
    exact isinst_ok I r1 ty ek fun tk => ⟨.bl b, H, I.tok tk, rfl, q⟩
  refine PE.imp (pe_callB cr hg hm PyProof.Rows.boot_isinstance (pa_cons (ha rfl) (pa_cons (pe_bltn (v := .ty T) hgx hmx hv rfl hn hdb) pa_nil hs2) hs) (by decide) (by decide) hs hpl) fun σ H Q ⟨ρ, Hs, d, st, ef, k⟩ => ?_
  obtain ⟨y, e1, e2⟩ := bind1 ef
  refine ⟨ρ, Hs, y, st, e1, fun v H' Hs' g r => ?_⟩
  unfold gInst at e2
  cases ht : tyD y with
  | none => rw [ht] at e2; cases e2
  | some t =>
    rw [ht] at e2
    cases e2
    obtain ⟨ty, ho⟩ := ty_rep g.sub r ht
    exact ⟨v, _, _, rfl, ty, kk.ok t ho, k _ H' Hs' g (.bl _)⟩
noncomputable def fIxOwn (i : Nat) (h : Fe) : Fe := fun ρ => match ρ[i]?, h ρ with
  | some (some (.ow (.lst ds))), some (.int k) => atI ds k
  | _, _ => none
theorem pf_ixOwn (i : Nat) {x : Str} {px : Pos} (hb : PF X K b h) (hN : X.N[i]? = some x := by rfl) (hv : Vis X.env.scope x := by first | exact Or.inl rfl | exact Or.inr (Or.inl rfl) | exact Or.inr (Or.inr rfl)) (hd : (x == ("__debug__" : Str)) = false := by decide)
    (hcd : (x == ("__classdict__" : Str)) = false := by decide) (hs : PlainIx b := by intro _ _; rfl) : PF X K (.Subscript (.Name x px) b pos) (fIxOwn i h) := fun hK => by
  subst hK
  refine PE.imp (pe_ix ix_list (pe_var hN hv hd hcd) (hb rfl) hs) fun σ H Q ⟨ρ, Hs, d, st, ef, k⟩ => ?_
  unfold fIxOwn at ef
  split at ef
  · rename_i ds j ho hj
    obtain ⟨a, xs, ha, hsa, hHa, r⟩ := st.ownAt ho
    refine ⟨_, ha, ρ, Hs, _, st, hj, fun v H' Hs' g rv => ?_⟩
    cases rv
    obtain ⟨w, h1, h2⟩ := atI_rep r ef
    exact ⟨a, xs, j, w, rfl, rfl, SqL.of (g.h _ _ hHa), h1, k w H' Hs' g (h2.mono g.hs)⟩
  · cases ef
noncomputable def newOnly (H Hs : Hp) : Hp := fun b => match H b with
  | none => Hs b
  | some _ => none
theorem newOnly_sub (H Hs : Hp) : Same (newOnly H Hs) Hs := fun b o e => by
  unfold newOnly at e
  split at e
  · exact e
  · cases e
theorem newOnly_mono {H H1 Hs1 Hs2 : Hp} (h : Same H H1) (s : Same Hs1 Hs2) : Same (newOnly H1 Hs1) (newOnly H Hs2) := fun b o e => by
  unfold newOnly at e ⊢
  split at e
  · rename_i q
    rw [h.free q]
    exact s b o e
  · cases e
theorem newOnly_at {H Hs : Hp} {b : Addr} (h : H b = none) : newOnly H Hs b = Hs b := by unfold newOnly; rw [h]
noncomputable def tFN (K : PySem.W.Frag) (f : Fe) : TE := fun σ H Q => ∃ ρ Hs d, StE K Hs H ρ σ ∧ f ρ = some d ∧ ∀ v H' Hs', Grow Hs H Hs' H' → Rep K (newOnly H Hs') d v → Q v H'
noncomputable def PFN (X : Cx) (K : PySem.W.Frag) (e : Expr) (f : Fe) : Prop := X.K = K → PE X e (tFN K f)
noncomputable def scalD : D → Bool
  | .non => true
  | .bl _ => true
  | .int _ => true
  | .str _ => true
  | _ => false
theorem scal_rep {H H' : Hp} {d : D} {v : V} (r : Rep K H d v) (h : scalD d = true) : Rep K H' d v := by
  cases r <;> first | (cases h; done) | constructor
theorem scals_rep {H H' : Hp} : ∀ {ds : List D} {vs : List V}, Reps K H ds vs → ds.all scalD = true → Reps K H' ds vs
  | _, _, .nil, _ => .nil
  | _, _, .cons r rs, h => by
    rw [List.all_cons, Bool.and_eq_true] at h
    exact .cons (scal_rep r h.1) (scals_rep rs h.2)
end
section
variable {X : Cx} {K : PySem.W.Frag} {sc : Scope} {own : List Str} {fr : List (Str × Nat)} {tg elt iter : Expr} {ifs : List Expr} {fi : Fi} {ft : Ft} {t : Rho → Option Bool} {f : Fe} {pos : Pos}
theorem comp_rdN {σ : L2.St} {H : Hp} {Q : VK} {ρ : Rho} {Hs : Hp} {J : It} {ds ys : List D} (st : StE K Hs H ρ σ) (it : ItD K J Hs ds) (hz : ds.length ≤ sizeLine) (e : compD own.length ft t f ds (rhoIn own.length fr ρ) = some ys)
    (k : ∀ v H' Hs', Grow Hs H Hs' H' → Rep K (newOnly H Hs') (.lst ys) v → Q v H') : rdComp own.length fr (tFG K ft) (tFT K t) (tFN K f) σ J H Q := by
  intro l hl
  have hsl : Hs l = none := st.sub.free hl
  refine ⟨fun i m vs σ' H' => ∃ ρ' Hs' zs rest, StE K Hs' H' ρ' σ' ∧ (∀ (j : Nat) (es : Ow) (a : Addr), ρ'[j]? = some (some (.ow es)) → σ'[j]? = some (some (.ref a)) → a ≠ l) ∧ Grow Hs H Hs' H' ∧ Hs' l = none ∧ H' l = some (.lst vs) ∧ Reps K (newOnly H Hs') zs vs ∧ m = ds.length - i ∧ i ≤ ds.length ∧ zs.length ≤ i ∧ compD own.length ft t f (ds.drop i) ρ' = some rest ∧ zs ++ rest = ys, ?_, ?_⟩
  · have sub : Same Hs (upd H l (.lst [])) := sm_updR st.sub hsl
    have g0 : Grow Hs H Hs (upd H l (.lst [])) := ⟨Same.refl _, sm_upd hl, sub, fun b h e => absurd e h⟩
    have ap0 : ∀ (j : Nat) (es : Ow) (a : Addr), (rhoIn own.length fr ρ)[j]? = some (some (.ow es)) → (compSt own.length fr σ)[j]? = some (some (.ref a)) → a ≠ l := fun j es a h1 h2 z => by
      obtain ⟨a', xs, q1, q2, q3, q4⟩ := (st.inn own.length fr).owAt h1
      rw [h2] at q1
      cases q1
      rw [z, hl] at q3
      cases q3
    exact ⟨_, _, Hs, [], ys, (st.inn _ _).grow g0, ap0, g0, hsl, upd_same, .nil, rfl, Nat.zero_le _, Nat.le_refl _, e, rfl⟩
  · rintro i m vs σ1 H1 ⟨ρ1, Hs1, zs, rest, s1, ap1, g1, n1, h1, r1, rfl, hi, hzs, e1, ee⟩
    obtain ⟨go, stop⟩ := it i Hs1 H1 g1.hs s1.sub
    by_cases hlt : i < ds.length
    · right
      have hd : ds[i]? = some ds[i] := by simp [hlt]
      obtain ⟨go1, yl⟩ := go _ hd
      refine ⟨go1, fun x H2 y => ?_⟩
      obtain ⟨Hs2, g2, r2⟩ := yl x H2 y
      rw [List.drop_eq_getElem_cons hlt] at e1
      obtain ⟨ρ3, e3, e4⟩ := bind1 e1
      obtain ⟨b, e5, e6⟩ := bind1 e4
      have keepN : ∀ {Ha Hsa Hb Hsb : Hp}, Grow Hsa Ha Hsb Hb → Hsa l = none → (∃ o, Ha l = some o) → Hsb l = none := fun {Ha Hsa Hb Hsb} g hn ⟨o, ho⟩ => by
        cases q : Hsb l with
        | none => rfl
        | some u =>
          have := g.new l (by rw [q]; simp) hn
          rw [ho] at this; cases this
      have n2 := keepN g2 n1 ⟨_, h1⟩
      refine ⟨ρ1, Hs2, _, ρ3, s1.grow g2, r2, e3, fun σ4 H4 Hs4 g4 s4 _ ok4 => ?_⟩
      have ap4 : ∀ (j : Nat) (es : Ow) (a : Addr), (reset own.length ρ3)[j]? = some (some (.ow es)) → σ4[j]? = some (some (.ref a)) → a ≠ l := fun j es a q1 q2 => by
        obtain ⟨q3, q4⟩ := ok4 j es (reset_get q1)
        exact ap1 j es a q3 (q4 ▸ q2)
      have h2 := g2.h _ _ h1
      have n4 := keepN g4 n2 ⟨_, h2⟩
      have h4 := g4.h _ _ h2
      refine ⟨ρ3, Hs4, b, s4, e5, fun H5 Hs5 g5 => ?_⟩
      have n5 := keepN g5 n4 ⟨_, h4⟩
      have h5 := g5.h _ _ h4
      have gg := ((g1.trans g2).trans g4).trans g5
      have r5 := r1.mono (newOnly_mono (Same.refl H) (((g2.trans g4).trans g5).hs))
      cases b with
      | false =>
        rw [if_neg Bool.false_ne_true] at e6
        refine iteF ?_
        exact ⟨ds.length - (i + 1), by lia, _, Hs5, zs, rest, (s4.grow g5).reset _, ap4, gg, n5, h5, r5, rfl, hlt, Nat.le_succ_of_le hzs, e6, ee⟩
      | true =>
        rw [if_pos rfl] at e6
        refine iteT ?_
        obtain ⟨y', e7, e8⟩ := bind1 e6
        obtain ⟨ys', e9, e10⟩ := bind1 e8
        cases e10
        refine ⟨ρ3, Hs5, y', s4.grow g5, e7, fun v H6 Hs6 g6 r6 => ?_⟩
        have n6 := keepN g6 n5 ⟨_, h5⟩
        have h6 := g6.h _ _ h5
        have lenv := r1.length
        refine ⟨h6, by lia, ds.length - (i + 1), by lia, _, Hs6, zs ++ [y'], ys', ?_, ap4, ?_, n6, upd_same, (r5.mono (newOnly_mono (Same.refl H) g6.hs)).append (.cons (r6.mono (newOnly_mono gg.h (Same.refl _))) .nil), rfl, hlt, by rw [List.length_append]; exact Nat.succ_le_succ hzs, e9, by rw [List.append_assoc]; exact ee⟩
        · have s6 := ((s4.grow g5).grow g6).reset own.length
          refine ⟨sm_updR s6.sub n6, s6.len, fun j sl ej => ?_⟩
          obtain ⟨w, q1, q2⟩ := s6.slot j sl ej
          refine ⟨w, q1, ?_⟩
          cases sl with
          | val d => exact q2
          | ow es =>
            obtain ⟨a, us, rfl, k1, k2, k3⟩ := q2
            exact ⟨a, us, rfl, k1, by rw [upd_ne (ap4 j es a ej q1)]; exact k2, k3⟩
        · have g7 := gg.trans g6
          have hH : ∀ b o, H b = some o → b ≠ l := fun b o ho z => by rw [z, hl] at ho; cases ho
          exact ⟨g7.hs, fun b o ho => by rw [upd_ne (hH b o ho)]; exact g7.h b o ho, sm_updR g7.sub n6, g7.new⟩
    · left
      have hi' : i = ds.length := by lia
      subst hi'
      rw [List.drop_length] at e1
      cases e1
      rw [List.append_nil] at ee
      subst ee
      refine ⟨stop (Nat.le_refl _), ?_⟩
      have hs : Same Hs1 (upd Hs1 l (.lst vs)) := sm_upd n1
      refine k _ H1 (upd Hs1 l (.lst vs)) ⟨g1.hs.trans hs, g1.h, ?_, ?_⟩ (.lst (by rw [newOnly_at hl]; exact upd_same) (r1.mono (newOnly_mono (Same.refl _) hs)))
      · intro b o ho
        by_cases hb : b = l
        · subst hb; rw [upd_same] at ho; cases ho; exact h1
        · rw [upd_ne hb] at ho; exact g1.sub b o ho
      · intro b hb he
        by_cases hb2 : b = l
        · rw [hb2]; exact hl
        · rw [upd_ne hb2] at hb; exact g1.new b hb he
theorem pfn_comp (hc : X.calm = true) (S : CScope X sc own fr) (hi : PFI X K tg iter fi) (hg : ∀ s H pins fp, PFG (compCx X sc own fr s H pins fp) K tg ft) (ht : ∀ s H pins fp, PFIf (compCx X sc own fr s H pins fp) K ifs t)
    (he : ∀ s H pins fp, PFN (compCx X sc own fr s H pins fp) K elt f) (hs : ∀ x, foldedSetIterable iter X.env x = pure x := by intro _; rfl) :
    PFN X K (.ListComp elt [⟨tg, iter, ifs, 0⟩] sc pos) (fComp own.length fr fi ft t f) := fun hK => by
  refine PE.imp (pe_comp hc S (hi hK) (fun s H pins fp => hg s H pins fp hK) (fun s H pins fp => ht s H pins fp hK) (fun s H pins fp => he s H pins fp hK) hs) fun σ H Q ⟨ρ, Hs, d, st, ef, k⟩ => ?_
  obtain ⟨ds, e1, e2⟩ := bind1 ef
  split at e2
  · rename_i hz
    obtain ⟨ys, e3, e4⟩ := bind1 e2
    cases e4
    exact ⟨ρ, Hs, ds, st, e1, fun J H' Hs' g it => comp_rdN (st.grow g) it hz e3 fun v H2 Hs2 g2 r => k v H2 Hs2 (g.trans g2) (r.mono (newOnly_mono g.h (Same.refl _)))⟩
  · cases e2
structure CScopeN (osc : Scope) (N : List Str) (sc : Scope) (own : List Str) (fr : List (Str × Nat)) : Prop where
  kind : sc.kind = .function
  loc : ∀ x ∈ sc.names, x.2 = .local → sc.names.lookup x.1 = some .local
  nd : (own ++ fr.map (·.1)).Nodup
  frk : ∀ p ∈ sc.names, p.2 = .free → osc.names.lookup p.1 = some .cell ∨ osc.names.lookup p.1 = some .free
  fre : ∀ p ∈ fr, (p.1, NameKind.free) ∈ sc.names ∧ N[p.2]? = some p.1
  one : (sc.names.map (·.1)).Nodup
theorem CScopeN.at {osc : Scope} {N : List Str} (S : CScopeN osc N sc own fr) (ho : X.env.scope = osc) (hN : X.N = N) : CScope X sc own fr := by
  subst ho
  subst hN
  exact ⟨S.kind, S.loc, S.nd, S.frk, S.fre, S.one⟩
end
end DL
set_option maxHeartbeats 4000000
namespace DL
open PySem PySem.Spec L2
section
variable {X : Cx} {K : PySem.W.Frag}
open Classical in
noncomputable def decV (K : PySem.W.Frag) (Hs : Hp) (ds : List D) (v : Value) : Option D := if h : ∃ d, d ∈ ds ∧ ∃ u, Rep K Hs d u ∧ RelV u v then some (Classical.choose h) else none
end
end DL
set_option maxHeartbeats 4000000
namespace L2
open PySem PySem.Spec PyProof.Rows
structure FlyB (P : Program) (w : World) (B : Heap) (a0 : Value) (outer : List Env) (H : Hp) (s : Shared) (a : Addr) (cls : Value) (H' : Hp) (s' : Shared) : Prop where
  os : s'.os = s.os
  bare : AllBare s'.gens
  fly : Heap.FlyingW B outer a cls a0 s'.heap
  kb : ∀ b o, s.heap.get? b = some o → H b = none → b ∉ frs outer → B.get? b = some o
  th : ∀ b o, s.heap.get? b = some o → b ∉ frs outer → ∃ o', B.get? b = some o'
  tb : ∀ b u, H' b = some u → ∃ o, B.get? b = some o
  un : Un (frs outer) [] H H' s.heap s'.heap
  hok : HOk P w H' s'.heap
noncomputable def CX1 (P : Program) (w : World) : CXT := fun outer H s E e s' => ∃ a cls B a0 H', e = .ref a ∧ FlyB P w B a0 outer H s a cls H' s' ∧ E cls none H'
section
variable {P : Program} {w : World} {B : Heap} {a0 : Value} {outer : List Env} {H H' : Hp} {s s' : Shared} {a : Addr} {cls : Value} {h' : Heap}
theorem hok_in {h1 h2 : Heap} (hok : HOk P w H' h1) (tb : ∀ b u, H' b = some u → ∃ o, B.get? b = some o) (k1 : B.StaysIn h1) (k2 : B.StaysIn h2) : HOk P w H' h2 := fun b u e => by
  refine (hok b u e).stay (fun c o hc q => ?_) (fun _ z => z) fun _ _ z => z
  have : ∃ o', B.get? c = some o' := by
    rcases hc with rfl | hc
    · exact tb _ u e
    · exact tb c _ hc
  obtain ⟨o', e'⟩ := this
  have z := k1 c o' e'
  rw [q] at z
  cases z
  exact k2 c _ e'
theorem ObjOk.there {h : Heap} {o : HO} (x : ObjOk P w H h a o) : ∃ ob, h.get? a = some ob := by
  cases o with
  | lst xs => obtain ⟨_, _, _, _, e⟩ := x; exact ⟨_, e⟩
  | tup xs => obtain ⟨_, _, _, ob, e, _⟩ := x; exact ⟨_, e⟩
  | dK kvs => obtain ⟨_, _, _, _, o, _, _, e, _⟩ := x; exact ⟨_, e⟩
  | dT kvs => obtain ⟨_, _, _, _, o, _, _, e, _⟩ := x; exact ⟨_, e⟩
  | set S n => obtain ⟨o, _, _, _, e, _⟩ := x; exact ⟨_, e⟩
  | ins C dx fs => obtain ⟨_, _, _, e, _⟩ := x; exact ⟨_, e⟩
  | own y => obtain ⟨_, e⟩ := x; exact ⟨_, e⟩
  | xd fs => obtain ⟨_, ⟨_, _, _, e, _⟩, _⟩ := x; exact ⟨_, e⟩
  | rng lo hi => obtain ⟨_, _, _, e⟩ := x; exact ⟨_, e⟩
  | frz ob u => obtain ⟨e, _⟩ := x; exact ⟨_, e⟩
  | tbl ps => exact ⟨_, (show h.get? a = some _ from x)⟩
  | met f y => exact ⟨_, (show h.get? a = some _ from x)⟩
  | ext φ => obtain ⟨_, e, _⟩ := x; exact e
theorem FlyB.move (F : FlyB P w B a0 outer H s a cls H' s') (fl : Heap.FlyingW B outer a cls a0 h') (sm : s'.heap.UpToSlots h') : FlyB P w B a0 outer H s a cls H' { s' with heap := h' } := by
  have slot : ∀ b o, s.heap.get? b = some o → H b = none → b ∈ frs outer → ∃ sl, h'.get? b = some { o with slots := sl } := fun b o q n hb => by
    obtain ⟨sl, e⟩ := F.un.slot b o q n hb (by simp)
    obtain ⟨_, o', e', hd⟩ := F.fly.2.2.1.mem hb
    rw [e] at e'
    cases e'
    obtain ⟨sl', e2⟩ := sm b _ e hd
    exact ⟨sl', e2⟩
  refine ⟨F.os, F.bare, fl, F.kb, F.th, F.tb, ⟨fun b o q n hb _ => fl.1 b o (F.kb b o q n hb), fun b o q n hb _ => slot b o q n hb, F.un.free, fun b o q _ => ?_, F.un.tups, F.un.frzs, F.un.tbls⟩, hok_in F.hok F.tb F.fly.1 fl.1⟩
  by_cases hb : b ∈ frs outer
  · obtain ⟨_, o', e', hd⟩ := F.fly.2.2.1.mem hb
    obtain ⟨sl', e2⟩ := sm b _ e' hd
    exact ⟨_, e2⟩
  · obtain ⟨o', e'⟩ := F.th b o q hb
    exact ⟨o', fl.1 b o' e'⟩
end
section
variable {X : Cx} {pins : List (Addr × Obj)} {σ : St} {H H' : Hp} {s : Shared} {B : Heap} {a0 : Value} {a : Addr} {cls : Value} {h' : Heap}
theorem Inv.notIn (I : Inv X pins σ H s) {b : Addr} {o : Obj} (e : X.s₀.heap.get? b = some o) (n : b ∉ X.fs) : b ∉ frs X.stack := fun hb => by
  rcases List.mem_cons.mp (I.stkSub b hb) with z | z
  · exact absurd (Nat.lt_of_lt_of_le (Heap.lt_size e) I.ok.above) (by rw [z]; exact Nat.lt_irrefl _)
  · exact n z
theorem Inv.flyOut (I : Inv X pins σ H s) (hex : X.ex = []) (fl : Heap.FlyingW B X.outer a cls a0 h') (kb : ∀ b o, s.heap.get? b = some o → H b = none → b ∉ frs X.stack → B.get? b = some o)
    (th : ∀ b o, s.heap.get? b = some o → b ∉ frs X.stack → ∃ o', B.get? b = some o') (tb : ∀ b u, H' b = some u → ∃ o, B.get? b = some o)
    (slot : ∀ b o, s.heap.get? b = some o → H b = none → b ∈ X.fs → ∃ sl, h'.get? b = some { o with slots := sl }) (free : ∀ b o, s.heap.get? b = some o → H b = none → H' b = none)
    (tups : ∀ b xs, H b = some (.tup xs) → H' b = some (.tup xs)) (frzs : ∀ b o u, H b = some (.frz o u) → H' b = some (.frz o u)) (tbls : ∀ b ps, H b = some (.tbl ps) → ∃ more, H' b = some (.tbl (ps ++ more)))
    (hok : HOk X.prog X.w H' h') {s' : Shared} (os : s'.os = s.os) (bare : AllBare s'.gens) : FlyB X.prog X.w B a0 X.outer X.H₀ X.s₀ a cls H' { s' with heap := h' } := by
  have nx : ∀ b : Addr, b ∉ X.ex := fun b z => by rw [hex] at z; exact absurd z (by simp)
  have kb' : ∀ b o, X.s₀.heap.get? b = some o → X.H₀ b = none → b ∉ frs X.outer → B.get? b = some o := fun b o q n hb =>
    kb b o (I.base.keep b o q n hb (nx b)) (I.base.free b o q n (nx b)) (I.notIn q hb)
  have th' : ∀ b o, X.s₀.heap.get? b = some o → b ∉ frs X.outer → ∃ o', B.get? b = some o' := fun b o q hb => by
    obtain ⟨o1, e1⟩ := I.base.there b o q (nx b)
    exact th b o1 e1 (I.notIn q hb)
  have sl' : ∀ b o, X.s₀.heap.get? b = some o → X.H₀ b = none → b ∈ frs X.outer → ∃ sl, h'.get? b = some { o with slots := sl } := fun b o q n hb => by
    obtain ⟨sl, e1⟩ := I.base.slot b o q n hb (nx b)
    obtain ⟨sl2, e2⟩ := slot b _ e1 (I.base.free b o q n (nx b)) hb
    exact ⟨sl2, e2⟩
  refine ⟨os.trans I.os, bare, fl, kb', th', tb, ⟨fun b o q n hb _ => fl.1 b o (kb' b o q n hb), fun b o q n hb _ => sl' b o q n hb, fun b o q n _ => ?_, fun b o q _ => ?_, fun b xs q => tups b xs (I.base.tups b xs q), fun b o u q => frzs b o u (I.base.frzs b o u q), fun b ps q => ?_⟩, hok⟩
  · obtain ⟨o', e'⟩ := I.base.there b o q (nx b)
    exact free b o' e' (I.base.free b o q n (nx b))
  · by_cases hb : b ∈ frs X.outer
    · obtain ⟨_, o', e', hd⟩ := fl.2.2.1.mem hb
      exact ⟨o', e'⟩
    · obtain ⟨o', e'⟩ := th' b o q hb
      exact ⟨o', fl.1 b o' e'⟩
  · obtain ⟨m1, e1⟩ := I.base.tbls b ps q
    obtain ⟨m2, e2⟩ := tbls b _ e1
    exact ⟨m1 ++ m2, by rw [e2, Array.append_assoc]⟩
end
structure Thr (X : Cx) (E : XK) : Prop where
  thr : ∀ (pins : List (Addr × Obj)) (σ : St) (H : Hp) (s : Shared) (e : Addr) (h' : Heap) (cls : Value) (vs : List Value), Inv X pins σ H s → Heap.MadeExcOf s.heap h' e cls vs → E cls none H → X.xe (.ref e) { s with heap := h' }
  pas : Passes (CX1 X.prog X.w) X E
  own : PassesOwn (model X.prog X.w) X.A X.env X.xe
theorem thr_cx {P : Program} {w : World} {K : PySem.W.Frag} {mg : Str → Option Value} {base : Heap} {N : List Str} {qual : Str} {scope : Scope} {f : Addr} {cd : Value} {A : Around} {outer : List Env} {s₀ : Shared} {H₀ : Hp} {E : XK} :
    Thr (cxOf (CX1 P w) P w K mg base N qual scope f cd A outer s₀ H₀ E) E := by
  refine ⟨fun pins σ H s e h' cls vs I m hE => ?_, fun pins σ H s e s' I hcx => ?_, PassesOwn.leaving⟩
  · have hin : ∀ env ∈ (envOfC qual scope s₀.heap.objs.size f cd :: outer), ∀ b, env.frame = some b → b ∈ frs (envOfC qual scope s₀.heap.objs.size f cd :: outer) := fun env he b hb => List.mem_filterMap.mpr ⟨env, he, hb⟩
    refine wpAny_leaves_madeW (base := PySem.W.hideAll s.heap (frs (envOfC qual scope s₀.heap.objs.size f cd :: outer))) (outer := outer) I.ok.frames rfl (fun b o q => PySem.W.of_hideAll _ q) (PySem.W.funFrames_hide I.stack hin) m fun h'' t fl tu nt sm => ?_
    refine ⟨e, cls, _, _, H, rfl, I.flyOut rfl fl (fun b o q _ n => PySem.W.hideAll_get _ q n) (fun b o q n => ⟨o, PySem.W.hideAll_get _ q n⟩) (fun b u q => ?_) (fun b o q n hb => ?_) (fun b o _ n => n) (fun _ _ q => q) (fun _ _ _ q => q) (fun b ps q => ⟨#[], by rw [q]; simp⟩) ?_ rfl I.bare, hE⟩
    · obtain ⟨o, ho⟩ := (I.hok b u q).there
      exact ⟨o, PySem.W.hideAll_get _ ho fun hm => by rw [I.stkFree b hm] at q; cases q⟩
    · obtain ⟨_, o', e', hd⟩ := I.funs.mem hb
      rw [q] at e'
      cases e'
      exact sm b o (m.keeps b o q) hd
    · refine hok_in I.hok (B := PySem.W.hideAll s.heap (frs (envOfC qual scope s₀.heap.objs.size f cd :: outer))) (fun b u q => ?_) (fun b o q => PySem.W.of_hideAll _ q) fl.1
      obtain ⟨o, ho⟩ := (I.hok b u q).there
      exact ⟨o, PySem.W.hideAll_get _ ho fun hm => by rw [I.stkFree b hm] at q; cases q⟩
  · obtain ⟨a, cls, B, a0, H', rfl, F, hE⟩ := hcx
    refine wpAny_leaves_onW (outer := outer) I.ok.frames rfl F.fly fun h'' fl sm => ?_
    have F2 := F.un
    refine ⟨a, cls, B, a0, H', rfl, I.flyOut rfl fl F.kb F.th F.tb (fun b o q n hb => ?_) (fun b o q n => F2.free b o q n (by simp)) F2.tups F2.frzs F2.tbls (hok_in F.hok F.tb F.fly.1 fl.1) F.os F.bare, hE⟩
    have hb' : b ∈ frs (envOfC qual scope s₀.heap.objs.size f cd :: outer) := by
      unfold frs
      rw [List.filterMap_cons]
      exact List.mem_cons_of_mem _ hb
    obtain ⟨sl, e⟩ := F2.slot b o q n hb' (by simp)
    obtain ⟨_, o', e', hd⟩ := F.fly.2.2.1.mem hb'
    rw [e] at e'
    cases e'
    obtain ⟨sl2, e2⟩ := sm b _ e hd
    exact ⟨sl2, e2⟩
end L2
set_option maxHeartbeats 4000000
namespace L2
open PySem PySem.Spec PyProof.Rows
section
variable {X : Cx} {E : XK} {C : Addr} {x : Str} {np cpos pos : Pos} {e : Expr} {es : List Expr} {t : TA} {bmB : List Value} {Bn newId initId : String}
noncomputable def tRaise (E : XK) (C : Addr) (t : TA) : TS := fun _ σ H => t σ H fun vs H1 => vs.length ≤ sizeLine ∧ E (.ref C) none H1
theorem ps_raise (T : Thr X E) (O : OwnCls x C bmB newId X.mg X.base) (FB : ExcBaseFacts Bn newId initId bmB) (hc : X.calm = true) (hg : Gl X x) (ha : PA X (e :: es) t) (hd : (x == ("__debug__" : Str)) = false := by decide)
    (he : starEach (e :: es) X.env = (false, eval e X.env) :: starEach es X.env := by rfl) (hplain : (backTo cpos (starEach es X.env)).any (·.1) = false := by rfl) :
    PS X (.Raise (some (.Call (.Name x np) (e :: es) [] cpos)) none pos) (tRaise E C t) := by
  intro pins s σ H D I h
  obtain ⟨tl, N, nm, q, bs, hdct, sn, sub, ab, col, dd, k0, k1, k2, k3, k5, mN, hC, hN, hni, TT⟩ := O.obj
  refine wpAny_Raise_call_subT (C := C) (nm := nm) (q := q) (N := N) (bs := bs) (bm := tl) (hdct := hdct) (sn := sn) (sub := sub) (ab := ab) (col := col) (dd := dd) (k0 := k0) (k1 := k1) (k2 := k2) (k3 := k3) (k5 := k5)
    FB (mN := mN) (TT.hasType FB.hasBase) (I.ok.hd hc) (by rw [he]; show (false || (backTo cpos (starEach es X.env)).any (·.1)) = false; rw [hplain]; rfl) hni (ld_glob I hg O.bound ⟨rfl, ?_⟩ hd)
  have h1 := ha cpos pins s σ H _ I h
  rw [he] at h1 ⊢
  refine Calls.evalArgs_plain (wpAny_mono h1 (fun us s2 h2 => ⟨rfl, ?_⟩) fun _ _ y => y)
  obtain ⟨vs, H', I', r, hl, hE⟩ := h2
  refine ⟨by rw [← r.length]; exact hl, I'.bk _ _ hC, hN.keeps I'.bk, TT.keeps I'.bk, fun h' a m => ?_⟩
  exact T.thr pins σ H' s2 a h' (.ref C) us I' m hE
end
noncomputable abbrev Cx.hand (X : Cx) (e : Addr) : Cx := { X with A := X.A.mark (some (.ref e)), calm := false, xe := fun _ _ => False }
section
variable {X : Cx} {pins : List (Addr × Obj)} {σ : St} {H : Hp} {s : Shared}
theorem Cx.Ok.hand (ok : X.Ok) (e : Addr) : (X.hand e).Ok :=
  ⟨ok.mod, ok.kind, ok.glob, ok.blt, ok.above, ok.inj, ok.has, ok.cab, (fun z => by cases z), ok.frames, ok.stk, ok.exf, ok.bs, ok.bsz, ok.noex, ok.exfs, ok.funs, ok.frf⟩
theorem Inv.hand (I : Inv X pins σ H s) (e : Addr) : Inv (X.hand e) pins σ H s := ⟨I.ok.hand e, I.os, I.bare, I.base, I.loc, I.cell, I.free, I.freeC, I.pin, I.hok, I.len⟩
theorem Inv.ofHand {e : Addr} (ok : X.Ok) (I : Inv (X.hand e) pins σ H s) : Inv X pins σ H s := ⟨ok, I.os, I.bare, I.base, I.loc, I.cell, I.free, I.freeC, I.pin, I.hok, I.len⟩
theorem unbind_ok {M : Model} {A : Around} {E : Value → Shared → Prop} {i : Nat} {x : Str} {v : V} {Q : Unit → Shared → Prop} (I : Inv X pins σ H s) (hN : X.N.Nodup) (hi : X.N[i]? = some x) (hk : X.env.scope.names.lookup x = some .local) (hv : σ[i]? = some (some v))
    (h : ∀ s', Inv X pins (σ.set i none) H s' → Q () s') : wpAny M A (unbindName X.env x) Q E s := by
  obtain ⟨m, hn, hl⟩ := id I.loc
  have hcls : (X.env.scope.kind == .class || (X.env.scope.kind == .module && X.env.locals != X.env.globals)) = false := by rw [I.ok.kind]; rfl
  have cne := I.cne
  have hmx : ∃ u, m x = some u := by
    obtain ⟨u, r, l⟩ := hl i x v hi hv (.inl hk)
    rcases l with ⟨_, e⟩ | ⟨k | k, _⟩
    · exact ⟨u, e⟩
    · have k' : X.env.scope.names.lookup x = some .cell := k
      rw [hk] at k'; cases k'
    · have k' : X.env.scope.names.lookup x = some .free := k
      rw [hk] at k'; cases k'
  obtain ⟨u, hu⟩ := hmx
  have tracked : ∀ {a : Addr} {h' : Heap}, (∃ o, s.heap.get? a = some o ∧ H a = none) → Heap.SameBut a s.heap h' → HOk X.prog X.w H h' := fun {a h'} ha hs b ob e => by
    obtain ⟨_, _, hfree⟩ := ha
    refine (I.hok b ob e).stay (fun c w' hc q => (hs.2 c ?_).trans q) (fun _ q => q) fun _ _ q => q
    rintro rfl
    rcases hc with rfl | hc
    · rw [hfree] at e; cases e
    · rw [hfree] at hc; cases hc
  refine wpAny_unbindName_local hk hn hu hcls fun h' u' hn' hs => ?_
  obtain ⟨oL, _, _, hoL, _⟩ := id hn
  refine h _ ⟨I.ok, I.os, I.bare, ⟨fun b o e n hb hx => ?_, fun b o e n hb hx => ?_, I.base.free, fun b o e hx => ?_, I.base.tups, I.base.frzs, I.base.tbls⟩, ⟨_, hn', fun j y v' e1 e2 e3 => ?_⟩, fun y c e => ?_, I.free, I.freeC, fun p hp => ?_, tracked ⟨oL, hoL, I.free⟩ hs, by simpa using I.len⟩
  · exact (hs.2 b (Nat.ne_of_lt (Nat.lt_of_lt_of_le (Heap.lt_size e) I.ok.above))).trans (I.base.keep b o e n hb hx)
  · obtain ⟨sl, e1⟩ := I.base.slot b o e n hb hx
    exact ⟨sl, (hs.2 b (Nat.ne_of_lt (Nat.lt_of_lt_of_le (Heap.lt_size e) I.ok.above))).trans e1⟩
  · obtain ⟨o', e1⟩ := I.base.there b o e hx
    exact ⟨o', (hs.2 b (Nat.ne_of_lt (Nat.lt_of_lt_of_le (Heap.lt_size e) I.ok.above))).trans e1⟩
  · by_cases hj : j = i
    · subst hj
      rw [List.getElem?_set] at e2
      rw [if_pos rfl] at e2
      split at e2 <;> cases e2
    · rw [List.getElem?_set_ne (Ne.symm hj)] at e2
      obtain ⟨u', r', q⟩ := hl j y v' e1 e2 e3
      refine ⟨u', r', ?_⟩
      rcases q with ⟨k, e⟩ | ⟨k, c, e, z⟩
      · refine .inl ⟨k, ?_⟩
        have : y ≠ x := fun e => hj (nodup_ix hN e1 (e ▸ hi))
        simp [this, e]
      · exact .inr ⟨k, c, e, z.sameBut hs (cne y c e)⟩
  · obtain ⟨w', z⟩ := I.cell y c e
    exact ⟨w', z.sameBut hs (cne y c e)⟩
  · obtain ⟨e, n, ne, nf, d⟩ := I.pin p hp
    exact ⟨(hs.2 p.1 ne).trans e, n, ne, nf, d⟩
end
section
variable {X : Cx} {pins : List (Addr × Obj)} {σ : St} {H H' : Hp} {s s' : Shared} {B : Heap} {a0 : Value} {a C : Addr}
theorem FlyB.fresh {P : Program} {w : World} {outer : List Env} {cls : Value} (F : FlyB P w B a0 outer H s a cls H' s') : H' a = none := by
  cases q : H' a with
  | none => rfl
  | some u =>
    obtain ⟨o, e⟩ := F.tb a u q
    rw [F.fly.2.1] at e; cases e
theorem FlyB.new {P : Program} {w : World} {outer : List Env} {cls : Value} (F : FlyB P w B a0 outer H s a cls H' s') {b : Addr} {o : Obj} (e : s.heap.get? b = some o) : b ≠ a := fun z => by
  subst z
  by_cases hb : b ∈ frs outer
  · obtain ⟨_, o', e', hd⟩ := F.fly.2.2.1.mem hb
    obtain ⟨oe, vs, e1, _, e2, _⟩ := F.fly.first
    rw [e'] at e1
    cases e1
    exact hd _ e2
  · obtain ⟨o', e'⟩ := F.th b o e hb
    rw [F.fly.2.1] at e'; cases e'
theorem FlyB.inv (F : FlyB X.prog X.w B a0 X.stack H s a (.ref C) H' s') (I : Inv X pins σ H s) : Inv X pins σ (upd H' a (.ext (DL.excAt a C))) s' := by
  have hn := F.fresh
  refine I.call' (ch := []) F.os ⟨F.un.keep, F.un.slot, fun b o q n hx => ?_, F.un.there, fun b xs q => ?_, fun b o u q => ?_, fun b ps q => ?_⟩ (fun b u q => ?_) F.bare fun b z => absurd z (by simp)
  · rw [upd_ne (F.new q)]; exact F.un.free b o q n hx
  · have := F.un.tups b xs q
    rw [upd_ne (ne_of_none this hn)]; exact this
  · have := F.un.frzs b o u q
    rw [upd_ne (ne_of_none this hn)]; exact this
  · obtain ⟨more, e⟩ := F.un.tbls b ps q
    exact ⟨more, by rw [upd_ne (ne_of_none e hn)]; exact e⟩
  · by_cases hb : b = a
    · subst hb
      rw [upd_same] at q
      cases q
      obtain ⟨o, e, hc⟩ := F.fly.there
      exact ⟨⟨o, e, hc⟩, ⟨o, e⟩, fun h1 h2 ⟨o1, e1, c1⟩ k => ⟨o1, k o1 e1, c1⟩⟩
    · rw [upd_ne hb] at q
      exact (F.hok b u q).stay (fun c v _ z => z) (fun c z => by rw [upd_ne (ne_of_none z hn)]; exact z) fun c xs z => by rw [upd_ne (ne_of_none z hn)]; exact z
end
end L2
set_option maxHeartbeats 4000000
namespace L2
open PySem PySem.Spec PyProof.Rows
section
variable {X : Cx} {rn n : Str} {np hpos pos : Pos} {b₀ : Stmt} {suite : List Stmt} {ts : TS} {cR : Value} {j : Nat}
theorem caught (hst : X.stack = X.env :: X.outer) (hfr : X.env.frame = some X.env.locals) (hgR : Gl X rn) (hmR : X.mg rn = some cR) (hN : X.N.Nodup) (hj : X.N[j]? = some n) (hkn : X.env.scope.names.lookup n = some .local)
    (hsu : ∀ a, PSs (X.hand a) (b₀ :: suite) ts) {pins : List (Addr × Obj)} {σ : St} {H : Hp} {s s' : Shared} {Dn : Ends} {e : Value} {C : Addr} {E1 : XK} (I : Inv X pins σ H s) (hcx : CX1 X.prog X.w X.stack H s E1 e s')
    (hE : ∀ cls d H', E1 cls d H' → ∃ C, cls = .ref C ∧ PySem.W.exmOne X.K (.ref C) cR = some true ∧ ∀ a, H' a = none → ts { nx := fun σ' H2 => (∃ v, σ'[j]? = some (some v)) ∧ Dn.nx (σ'.set j none) H2, rt := fun _ _ => False } (σ.set j (some (.ref a))) (upd H' a (.ext (DL.excAt a C))))
    (hd : (rn == ("__debug__" : Str)) = false := by decide) :
    wpAny (model X.prog X.w) X.A (noteFrame e X.env) (fun _ s₂ => wpAny (model X.prog X.w) X.A (setFlight e none) (fun _ s₃ => wpAny (model X.prog X.w) X.A (handleBy e X.env [.ExceptHandler (some (.Name rn np)) (some n) (b₀ :: suite) hpos]) (SP X pins Dn) X.xe s₃) X.xe s₂) X.xe s' := by
  obtain ⟨a, cls, B, a0, H', rfl, F, hq⟩ := hcx
  obtain ⟨C, rfl, hm, hts⟩ := hE _ _ _ hq
  have fl0 := F.fly
  have frm := I.ok.frames
  rw [hst] at fl0 frm
  refine wpAny_looks_onW frm hfr fl0 fun h₄ held₄ sm₄ => ?_
  refine wpAny_landsW held₄ fun h₅ fl₅ sm₅ => ?_
  have F5 := F.move (h' := h₅) (by rw [hst]; exact fl₅) (sm₄.trans sm₅)
  have I5 := (F5.inv I).hand a
  refine wpAny_handleBy_cons (codeAny_handlers_test (ld_glob I5 hgR hmR ?_ hd)) (by intro q; cases q)
  have LT : PySem.W.Looks (model X.prog X.w) h₅ (typeOf (.ref a)) (.ref C) := by
    obtain ⟨o, e, hc⟩ := fl₅.there
    rw [← hc]
    exact (PySem.W.Looks.ld e).andThen .now
  refine (PySem.W.exm_one (K := X.K) I5.kIn LT hm).here ?_
  refine codeAny_handlers_suite_as ?_
  refine lands_againW fl₅ fun h₆ fl₆ sm₆ => ?_
  have F6 := F5.move (h' := h₆) (by rw [hst]; exact fl₆) sm₆
  have I6 := (F6.inv I).hand a
  have hjl : j < σ.length := by rw [I.len]; exact (List.getElem?_eq_some_iff.mp hj).1
  refine store_ok (X := X.hand a) (i := j) (v := .ref a) I6 hN hj (.inl hkn) rfl (fun s7 I7 => ?_) (.inr hkn)
  refine wpAny_mono (hsu a pins s7 _ _ _ I7 (hts a F.fresh)) (fun f s8 q => ?_) fun _ _ z => False.elim z
  cases f with
  | next =>
    obtain ⟨σ8, H8, I8, ⟨v, hv⟩, q8⟩ := q
    have I8' := I8.ofHand I.ok
    refine wpAny_bind (wpAny_bindName (store_ok (i := j) (v := .non) I8' hN hj (.inl hkn) rfl (fun s9 I9 => ?_) (.inr hkn)))
    refine wpAny_onRaise (unbind_ok (v := .non) I9 hN hj hkn ?_ fun s10 I10 => ?_)
    · have hl : j < σ8.length := (List.getElem?_eq_some_iff.mp hv).1
      rw [List.getElem?_set, if_pos rfl, if_pos hl]
    · refine ⟨_, H8, I10, ?_⟩
      rw [List.set_set]
      exact q8
  | brk => obtain ⟨_, _, _, q⟩ := q; exact q.elim
  | cont => obtain ⟨_, _, _, q⟩ := q; exact q.elim
  | ret u => obtain ⟨_, _, _, _, _, q⟩ := q; exact q.elim
end
section
variable {X : Cx} {k : Nat} {f C : Addr} {fd : FuncData} {ps : List Str} {sp : Sp} {E1 : XK}
theorem run_makeX {CX : CXT} {pins : List (Addr × Obj)} {σ : St} {H : Hp} {s : Shared} {Q : VK} {us : List Value} {vs : List V} {Ex : Value → Shared → Prop} (M : Mk X.K C f) (F : FnOk X.prog X.w X.K X.mg X.base CX k f fd ps sp) (hr : Room (k + 1) X.A) (hb : Binds X.K fd ps [])
    (I : Inv X pins σ H s) (r : Vals vs us) (hx : ∀ H s e s', Inv X pins σ H s → CX X.stack H s E1 e s' → Ex e s')
    (h : ∀ x dx, H x = none → H dx = none → dx ≠ x → sp (.ref x :: vs) (upd (upd H dx (.own x)) x (.ins C dx [])) (fun v H2 => v = .non ∧ Q (.ref x) H2) E1) :
    wpAny (model X.prog X.w) X.A (call (.ref C) us) (EP X pins σ Q) Ex s := by
  have hx' : ∀ H s e s', Inv (X.wish Ex) pins σ H s → CX X.stack H s E1 e s' → Ex e s' := fun H s e s' I => hx H s e s' I.unwish
  have hq := h (s.heap.objs.size + 1) s.heap.objs.size (I.hok.fresh (Nat.le_succ _)) (I.hok.fresh (Nat.le_refl _)) (Nat.ne_of_lt (Nat.lt_succ_self _))
  have I2 := Inv.made (C := C) I
  have r2 : Vals (V.ref (s.heap.objs.size + 1) :: vs) (Value.ref (s.heap.objs.size + 1) :: us) := .cons rfl r
  have hl : (Value.ref (s.heap.objs.size + 1) :: us).length = ps.length := by
    have e := r2.length
    rw [F.len _ _ _ _ hq] at e
    exact e.symm
  refine wpAny_call (make_map (f := f) I.kIn M.makes M.init (beq_iff_eq.mp M.fn) (codeAny_mono (F.run _ X.stack _ _ ⟨Value.ref (s.heap.objs.size + 1) :: us, []⟩ (Value.ref (s.heap.objs.size + 1) :: us) _ _ E1 (hr.make C us [])
    (I2.env0.make C us []) (by
      have := hb _ (Value.ref (s.heap.objs.size + 1) :: us) I2.kIn (by rw [List.append_nil]; exact hl)
      rwa [List.append_nil] at this) r2 hq) fun r s' hq' => ?_))
  cases r with
  | error e => exact hx _ _ e s' I2 hq'
  | ok fl =>
    cases fl with
    | ret u =>
      obtain ⟨v, H', I3, rv, ev, q3⟩ := I2.after hq'
      subst ev
      exact ⟨rv, ⟨V.ref (s.heap.objs.size + 1), H', I3, rfl, q3⟩⟩
    | next => exact False.elim hq'
    | brk => exact False.elim hq'
    | cont => exact False.elim hq'
variable {x cn rn n : Str} {p pos' cpos pos1 np hpos pos : Pos} {e : Expr} {es : List Expr} {t : TA} {b₀ : Stmt} {suite : List Stmt} {ts : TS} {cR : Value} {i j : Nat}
noncomputable def xTry (K : PySem.W.Frag) (cR : Value) (j : Nat) (ts : TS) (Dn : Ends) (σ : St) : XK := fun cls _ H' => ∃ C, cls = .ref C ∧ PySem.W.exmOne K (.ref C) cR = some true ∧
  ∀ a, H' a = none → ts { nx := fun σ' H2 => (∃ v, σ'[j]? = some (some v)) ∧ Dn.nx (σ'.set j none) H2, rt := fun _ _ => False } (σ.set j (some (.ref a))) (upd H' a (.ext (DL.excAt a C)))
theorem ps_tryMake (hst : X.stack = X.env :: X.outer) (hfr : X.env.frame = some X.env.locals) (M : Mk X.K C f) (F : FnOk X.prog X.w X.K X.mg X.base (CX1 X.prog X.w) k f fd ps sp) (hr : Room (k + 1) X.A) (hb : Binds X.K fd ps []) (hg : Gl X cn) (hm : X.mg cn = some (.ref C))
    (ha : PA X.nox (e :: es) t) (hgR : Gl X rn) (hmR : X.mg rn = some cR) (hN : X.N.Nodup) (hi : X.N[i]? = some x) (hx : Loc X.env.scope x) (hj : X.N[j]? = some n) (hkn : X.env.scope.names.lookup n = some .local)
    (hsu : ∀ a, PSs (X.hand a) (b₀ :: suite) ts) (hdb : (cn == ("__debug__" : Str)) = false := by decide) (hdR : (rn == ("__debug__" : Str)) = false := by decide)
    (he : starEach (e :: es) X.env = (false, eval e X.env) :: starEach es X.env := by rfl) (hpl : (backTo cpos (starEach es X.env)).any (·.1) = false := by rfl)
    (hs : swapsWith (.Call (.Name cn p) (e :: es) [] cpos) (some (.Name x pos')) pos1.line X.env = pure false := by rfl) (hf : X.fn x = true ∨ X.env.scope.names.lookup x = some .local := by first | exact .inl rfl | exact .inr rfl | assumption) :
    PS X (.Try [.Assign [.Name x pos'] (.Call (.Name cn p) (e :: es) [] cpos) pos1] [.ExceptHandler (some (.Name rn np)) (some n) (b₀ :: suite) hpos] [] [] pos)
      (fun Dn σ H => t σ H fun vs H1 => ∀ y dx, H1 y = none → H1 dx = none → dx ≠ y → sp (.ref y :: vs) (upd (upd H1 dx (.own y)) y (.ins C dx [])) (fun v H2 => v = .non ∧ Dn.nx (σ.set i (some (.ref y))) H2) (xTry X.K cR j ts Dn σ)) := by
  intro pins s σ H Dn I h
  refine wpAny_Try_except (wpAny_execs_cons (wpAny_Assign_Name (wpAny_Call_Name_kw (ld_glob I hg hm ?_ hdb)) hs))
  refine PySem.W.callWith_K (h₀ := X.base) I.ok.mod.kin M.kp (wpAny_mono (ha cpos pins s σ H _ (I.wish _) h) (fun us s1 ⟨vs, H1, I1, r, q⟩ => ⟨I1.unwish.kIn, ?_⟩) fun _ _ z => False.elim z) he hpl
  refine thn (run_makeX (Q := fun v H2 => Dn.nx (σ.set i (some v)) H2) (E1 := xTry X.K cR j ts Dn σ) M F hr hb I1.unwish r (fun H2 s2 e2 s3 I2 hcx => ?_) q) fun v s4 ⟨y, H4, I4, r4, q4⟩ => ?_
  · exact caught hst hfr hgR hmR hN hj hkn hsu (C := C) I2 hcx (fun cls d H' z => z) hdR
  · exact store_ok I4 hN hi hx r4 (fun s5 I5 => wpAny_execs_nil (wpAny_execs_nil ⟨_, H4, I5, q4⟩)) hf
end
end L2
set_option maxHeartbeats 4000000
namespace DL
open PySem PySem.Spec L2 PyProof.Rows
inductive OutX where
  | ok (o : Out)
  | xr (C : Addr)
noncomputable abbrev Fx := Rho → Option OutX
noncomputable def xEnd (K : PySem.W.Frag) (Hs₀ H₀ Hs : Hp) (Dn : Ends) (E : XK) : OutX → Prop
  | .ok o => oEnd K Hs₀ H₀ Hs Dn o
  | .xr C => ∀ H' Hs', Grow Hs₀ H₀ Hs' H' → E (.ref C) none H'
noncomputable def tFX (K : PySem.W.Frag) (E : XK) (g : Fx) : TS := fun Dn σ H => ∃ Hs₀ H₀ ρ Hs out, St1 K Hs₀ H₀ Hs H ρ σ ∧ g ρ = some out ∧ xEnd K Hs₀ H₀ Hs Dn E out
theorem xEnd.weak {K : PySem.W.Frag} {Hs₀ H₀ Hs Hs' : Hp} {Dn : Ends} {E : XK} (s : Same Hs Hs') : ∀ {o : OutX}, xEnd K Hs₀ H₀ Hs Dn E o → xEnd K Hs₀ H₀ Hs' Dn E o
  | .ok _, h => oEnd.weak s h
  | .xr _, h => h
noncomputable def PFX (X : Cx) (K : PySem.W.Frag) (st : Stmt) (g : Fx) : Prop := ∀ E, Thr X E → X.K = K → PS X st (tFX K E g)
noncomputable def PFXs (X : Cx) (K : PySem.W.Frag) (st : List Stmt) (g : Fx) : Prop := ∀ E, Thr X E → X.K = K → PSs X st (tFX K E g)
noncomputable def xOk (g : Fs) : Fx := fun ρ => (g ρ).map OutX.ok
noncomputable def xSeq (g h : Fx) : Fx := fun ρ => (g ρ).bind fun o => match o with
  | .ok (.nx ρ') => h ρ'
  | .ok (.rt d) => some (.ok (.rt d))
  | .xr C => some (.xr C)
noncomputable def xIf (t : Rho → Option Bool) (g h : Fx) : Fx := fun ρ => (t ρ).bind fun b => if b then g ρ else h ρ
inductive Rx where
  | val (d : D)
  | xr (C : Addr)
noncomputable def xRaise (C : Addr) (fj : Rho → Option Nat) : Fx := fun ρ => (fj ρ).bind fun n => if n ≤ sizeLine then some (.xr C) else none
noncomputable def loopX (ft : Ft) (g : Fx) : List D → Fx
  | [] => fun ρ => some (.ok (.nx ρ))
  | d :: ds => fun ρ => (ft d ρ).bind fun ρ1 => (g ρ1).bind fun o => match o with
    | .ok (.nx ρ2) => loopX ft g ds ρ2
    | .ok (.rt d) => some (.ok (.rt d))
    | .xr C => some (.xr C)
noncomputable def xFor (fi : Fi) (ft : Ft) (g : Fx) : Fx := fun ρ => (fi ρ).bind fun ds => loopX ft g ds ρ
section
variable {X : Cx} {K : PySem.W.Frag} {st : Stmt} {sts body : List Stmt} {g h : Fx} {gs : Fs} {e : Expr} {es : List Expr} {f : Fe} {pos : Pos} {as : Rho → Option (List D)} {t : Rho → Option Bool} {c : Expr}
theorem px_lift (h1 : PFS X K st gs) : PFX X K st (xOk gs) := fun E T hK => PS.imp (h1 hK) fun Dn σ H ⟨Hs₀, H₀, ρ, Hs, out, s, ef, k⟩ => by
  unfold xOk at ef
  cases q : gs ρ with
  | none => rw [q] at ef; cases ef
  | some o => rw [q] at ef; cases ef; exact ⟨Hs₀, H₀, ρ, Hs, o, s, q, k⟩
theorem pxs_lift (h1 : PFSs X K sts gs) : PFXs X K sts (xOk gs) := fun E T hK => PSs.imp (h1 hK) fun Dn σ H ⟨Hs₀, H₀, ρ, Hs, out, s, ef, k⟩ => by
  unfold xOk at ef
  cases q : gs ρ with
  | none => rw [q] at ef; cases ef
  | some o => rw [q] at ef; cases ef; exact ⟨Hs₀, H₀, ρ, Hs, o, s, q, k⟩
theorem pxs_cons (h1 : PFX X K st g) (h2 : PFXs X K sts h) : PFXs X K (st :: sts) (xSeq g h) := fun E T hK => PSs.imp (pss_cons (h1 E T hK) (h2 E T hK)) fun Dn σ H ⟨Hs₀, H₀, ρ, Hs, out, s, ef, k⟩ => by
  obtain ⟨o, e1, e2⟩ := bind1 ef
  refine ⟨Hs₀, H₀, ρ, Hs, o, s, e1, ?_⟩
  match o, e2 with
  | .xr C, e2 => cases e2; exact k
  | .ok (.rt d), e2 => cases e2; exact k
  | .ok (.nx ρ'), e2 => exact fun σ' H' Hs' s' q => ⟨Hs₀, H₀, ρ', Hs', out, s', e2, k.weak q⟩
theorem pxs_one (h1 : PFX X K st g) : PFXs X K [st] g := fun E T hK => pss_one (h1 E T hK)
theorem pxs_nil : PFXs X K [] (xOk gNext) := pxs_lift pss_nilF
theorem px_if {sa sb : List Stmt} (hc : PFT X K c t) (ha : PFXs X K sa g) (hb : PFXs X K sb h) : PFX X K (.If c sa sb pos) (xIf t g h) := fun E T hK => PS.imp (ps_if (hc hK) (ha E T hK) (hb E T hK)) fun Dn σ H ⟨Hs₀, H₀, ρ, Hs, out, s, ef, k⟩ => by
  obtain ⟨b, e1, e2⟩ := bind1 ef
  refine ⟨ρ, Hs, b, s.st, e1, fun H' Hs' gr => ?_⟩
  cases b with
  | true => rw [if_pos rfl] at e2 ⊢; exact ⟨Hs₀, H₀, ρ, Hs', out, s.grow gr, e2, k.weak gr.hs⟩
  | false => rw [if_neg Bool.false_ne_true] at e2 ⊢; exact ⟨Hs₀, H₀, ρ, Hs', out, s.grow gr, e2, k.weak gr.hs⟩
theorem px_for {tg iter : Expr} {fi : Fi} {ft : Ft} (hc : X.calm = true) (hi : PFI X K tg iter fi) (hg : PFG X K tg ft) (hb : PFXs X K body g)
    (hs : ∀ x, foldedSetIterable iter X.env x = pure x := by intro _; rfl) : PFX X K (.For tg iter body [] pos) (xFor fi ft g) := fun E T hK => by
  refine PS.imp (ps_for T.own hc (hi hK) (hg hK) (hb E T hK) hs) fun Dn σ H ⟨Hs₀, H₀, ρ, Hs, out, s, ef, k⟩ => ?_
  obtain ⟨ds, e1, e2⟩ := bind1 ef
  refine ⟨ρ, Hs, ds, s.st, e1, fun J H1 Hs1 g1 it => ?_⟩
  refine ⟨fun i m σ H => ∃ ρ Hs, St1 K Hs₀ H₀ Hs H ρ σ ∧ Same Hs1 Hs ∧ m = ds.length - i ∧ i ≤ ds.length ∧ loopX ft g (ds.drop i) ρ = some out, ⟨_, ρ, Hs1, s.grow g1, Same.refl _, rfl, Nat.zero_le _, e2⟩, ?_⟩
  rintro i m σ2 H2 ⟨ρ2, Hs2, s2, sm, rfl, hi, e3⟩
  obtain ⟨go, stop⟩ := it i Hs2 H2 sm s2.st.sub
  by_cases hlt : i < ds.length
  · right
    have hd : ds[i]? = some ds[i] := by simp [hlt]
    obtain ⟨go1, yl⟩ := go _ hd
    rw [List.drop_eq_getElem_cons hlt] at e3
    obtain ⟨ρ3, e4, e5⟩ := bind1 e3
    obtain ⟨o, e6, e7⟩ := bind1 e5
    refine ⟨go1, fun σ' H' => ∃ ρ' Hs', St1 K Hs₀ H₀ Hs' H' ρ' σ' ∧ Same Hs1 Hs' ∧ loopX ft g (ds.drop (i + 1)) ρ' = some out, fun σ' H' ⟨ρ', Hs', s', sm', q⟩ => ⟨ds.length - (i + 1), by lia, ρ', Hs', s', sm', rfl, hlt, q⟩, fun x H' y => ?_⟩
    obtain ⟨Hs3, g3, r3⟩ := yl x H' y
    refine ⟨ρ2, Hs3, _, ρ3, (s2.grow g3).st, r3, e4, fun σ4 H4 Hs4 g4 _ up _ => ?_⟩
    refine ⟨Hs₀, H₀, ρ3, Hs4, o, up _ _ (s2.grow g3), e6, ?_⟩
    match o, e7 with
    | .xr C, e7 => cases e7; exact k
    | .ok (.rt d), e7 => cases e7; exact k
    | .ok (.nx ρ5), e7 => exact fun σ5 H5 Hs5 s5 q => ⟨ρ5, Hs5, s5, (sm.trans (g3.hs.trans g4.hs)).trans q, e7⟩
  · left
    have hi' : i = ds.length := by lia
    subst hi'
    rw [List.drop_length] at e3
    cases e3
    exact ⟨stop (Nat.le_refl _), k _ _ _ s2 (g1.hs.trans sm)⟩
noncomputable abbrev Fj := Rho → Option Nat
noncomputable def PJ (X : Cx) (K : PySem.W.Frag) (es : List Expr) (fj : Fj) : Prop := X.K = K → ∀ (pins : List (Addr × Obj)) (s : Shared) (σ : L2.St) (H : Hp) (acc : Str) (ρ : Rho) (Hs : Hp) (n : Nat) (Q : Value → Shared → Prop), Inv X pins σ H s → StE K Hs H ρ σ → fj ρ = some n → acc.length + n ≤ sizeLine →
  (∀ x t s' H' Hs', Grow Hs H Hs' H' → Inv X pins σ H' s' → Q (.str x t) s') → wpAny (model X.prog X.w) X.A (joinParts acc (evalEach es X.env)) Q X.xe s
noncomputable def jNil : Fj := fun _ => some 0
noncomputable def jLit (l : Nat) (fj : Fj) : Fj := fun ρ => (fj ρ).map (l + ·)
noncomputable def jInt (f : Fe) (fj : Fj) : Fj := fun ρ => match f ρ with
  | some (.int i) => if -(2 ^ 62) ≤ i ∧ i < 2 ^ 62 then (fj ρ).map (70 + ·) else none
  | _ => none
variable {fj : Fj}
theorem pj_nil : PJ X K [] jNil := fun hK pins s σ H acc ρ Hs n Q I st ef hl k => by
  cases ef
  exact joinParts_nil (k _ _ _ H Hs (Grow.refl st.sub) (I.tok _)) (by simpa using hl)
theorem len_app (a b : Str) : (a ++ b).length = a.length + b.length := strLen_append a b
theorem pj_lit {x : Str} {p : Pos} {j' : Nat} (h1 : PJ X K es fj) : PJ X K (.Constant (.str x) j' p :: es) (jLit x.length fj) := fun hK pins s σ H acc ρ Hs n Q I st ef hl k => by
  unfold jLit at ef
  cases q : fj ρ with
  | none => rw [q] at ef; cases ef
  | some m =>
    rw [q] at ef
    cases ef
    refine joinParts_cons (wpAny_mono (pe_str (X := X) pins s σ H (fun v H' => v = .str x ∧ H' = H) I ⟨rfl, rfl⟩) (fun u s1 ⟨v, H1, I1, r, e1, e2⟩ => ?_) fun _ _ z => z)
    subst e1 e2
    obtain ⟨t, rfl⟩ := r
    exact ⟨by rw [len_app]; lia, h1 hK pins s1 σ H1 _ ρ Hs m Q I1 st q (by rw [len_app]; lia) k⟩
theorem pj_int {p : Pos} (he : PF X K e f) (h1 : PJ X K es fj) : PJ X K (.FormattedValue e (-1) none p :: es) (jInt f fj) := fun hK pins s σ H acc ρ Hs n Q I st ef hl k => by
  unfold jInt at ef
  split at ef
  · rename_i i qi
    split at ef
    · rename_i hi
      cases q : fj ρ with
      | none => rw [q] at ef; cases ef
      | some m =>
        rw [q] at ef
        cases ef
        refine joinParts_cons (FormattedValue_plain (wpAny_mono (he hK pins s σ H (fun v H' => ∃ Hs', Grow Hs H Hs' H' ∧ v = .int i) I ⟨ρ, Hs, _, st, qi, fun v H' Hs' g r => by cases r; exact ⟨Hs', g, rfl⟩⟩) (fun u s1 ⟨v, H1, I1, r, Hs1, g1, e1⟩ => ?_) fun _ _ z => z))
        subst e1
        obtain ⟨t, rfl⟩ := r
        have hb : i.natAbs < 2 ^ 63 := by lia
        have hlog : i.natAbs.log2 < 63 := by
          rcases Nat.eq_zero_or_pos i.natAbs with z | z
          · rw [z]; decide
          · exact (Nat.log2_lt (by lia)).mpr hb
        refine formatField_int_small (by lia) ?_
        have hlen : (Str.ofString (toString i)).length ≤ 70 := by
          have := int_text_length_le (k := 63) (by decide) hlog
          rw [PySem.ofString_length]; lia
        have hlen' : (toString i : Str).length ≤ 70 := hlen
        refine ⟨by rw [len_app]; lia, h1 hK pins _ σ H1 _ ρ Hs1 m Q (I1.tok _) (st.grow g1) q (by rw [len_app]; lia) fun x t s' H' Hs' g => k x t s' H' Hs' (g1.trans g)⟩
    · cases ef
  · cases ef
theorem px_raise {C : Addr} {x : Str} {bmB : List Value} {Bn newId initId : String} {np cpos jpos : Pos} {v₁ v₂ : Expr} (O : OwnCls x C bmB newId X.mg X.base) (FB : ExcBaseFacts Bn newId initId bmB) (hc : X.calm = true) (hg : Gl X x) (hj : PJ X K (v₁ :: v₂ :: es) fj)
    (hd : (x == ("__debug__" : Str)) = false := by decide) (he : starEach [.JoinedStr (v₁ :: v₂ :: es) jpos] X.env = [(false, eval (.JoinedStr (v₁ :: v₂ :: es) jpos) X.env)] := by rfl) :
    PFX X K (.Raise (some (.Call (.Name x np) [.JoinedStr (v₁ :: v₂ :: es) jpos] [] cpos)) none pos) (xRaise C fj) := fun E T hK => by
  have hp : PE X (.JoinedStr (v₁ :: v₂ :: es) jpos) (fun σ H Q => ∃ ρ Hs n, StE K Hs H ρ σ ∧ fj ρ = some n ∧ n ≤ sizeLine ∧ ∀ x H' Hs', Grow Hs H Hs' H' → Q (.str x) H') := fun pins s σ H Q I ⟨ρ, Hs, n, st, ef, hl, k⟩ =>
    JoinedStr_many (hj hK pins s σ H Str.empty ρ Hs n _ I st ef (by show 0 + n ≤ _; lia) fun x t s' H' Hs' g I' => ⟨.str x, H', I', ⟨t, rfl⟩, k x H' Hs' g⟩)
  refine PS.imp (ps_raise T O FB hc hg (pa_cons hp pa_nil he) hd he rfl) fun Dn σ H ⟨Hs₀, H₀, ρ, Hs, out, s, ef, k⟩ => ?_
  obtain ⟨n, e1, e2⟩ := bind1 ef
  split at e2
  · rename_i hn
    cases e2
    exact ⟨ρ, Hs, n, s.st, e1, hn, fun x H' Hs' g => ⟨by show 1 ≤ sizeLine; decide, k H' Hs' (s.gr.trans g)⟩⟩
  · cases e2
end
noncomputable def rEnd (K : PySem.W.Frag) (Hs H : Hp) (Q : VK) (E : XK) : Rx → Prop
  | .val d => ∀ v H' Hs', Grow Hs H Hs' H' → Rep K Hs' d v → Q v H'
  | .xr C => ∀ H' Hs', Grow Hs H Hs' H' → E (.ref C) none H'
noncomputable def spX (K : PySem.W.Frag) (F : List D → Option Rx) : Sp := fun vs H Q E => ∃ Hs ds r, Same Hs H ∧ Reps K Hs ds vs ∧ F ds = some r ∧ rEnd K Hs H Q E r
structure Dx (P : Program) (w : World) (K : PySem.W.Frag) (mg : Str → Option Value) (base : Heap) (k : Nat) (x : Str) (ps : List Str) (F : List D → Option Rx) : Prop where
  ex : ∃ (f : Addr) (fd : FuncData), mg x = some (.ref f) ∧ PySem.W.keepIn K (.ref f) = true ∧ Binds K fd ps [] ∧ FnOk P w K mg base (CX1 P w) k f fd ps (spX K F)
theorem Dx.mono {P : Program} {w : World} {K : PySem.W.Frag} {mg : Str → Option Value} {base : Heap} {j k : Nat} {x : Str} {ps : List Str} {F : List D → Option Rx} (d : Dx P w K mg base j x ps F) (h : j ≤ k) : Dx P w K mg base k x ps F :=
  let ⟨f, fd, h1, h2, h3, h4⟩ := d.ex; ⟨f, fd, h1, h2, h3, h4.mono h⟩
noncomputable def runX (g : Fx) (ρ : Rho) : Option Rx := match g ρ with
  | some (.ok (.rt d)) => some (.val d)
  | some (.ok (.nx _)) => some (.val .non)
  | some (.xr C) => some (.xr C)
  | none => none
section
variable {P : Program} {w : World} {K : PySem.W.Frag} {mg : Str → Option Value} {base : Heap}
theorem fn_X {x qual : Str} {st : Stmt} {f : Addr} {fd : FuncData} {N ps : List Str} {k : Nat} {F : List D → Option Rx} {g : Fx} (U : Fun K x qual st f fd) (S : FnScope N ps (defScope st)) (hlen : ∀ ds d, F ds = some d → ds.length = ps.length)
    (hbody : ∀ (cdv : Value) (A : Around) (outer : List Env) (s : Shared) (H : Hp) (E : XK), Room k (A.deeper (PyProof.Rows.envOfC qual (defScope st) s.heap.objs.size f cdv)) →
      PFXs (cxOf (CX1 P w) P w K mg base N qual (defScope st) f cdv A outer s H E) K (defBody st) g)
    (hF : ∀ ds d, F ds = some d → runX g (startR N ds) = some d) : FnOk P w K mg base (CX1 P w) (k + 1) f fd ps (spX K F) := by
  have hpl : ps.length ≤ N.length := by have := congrArg List.length S.pre; rw [List.length_take] at this; lia
  obtain ⟨oc, od, kV, doc, pm, an, cdv, ct, osl, rfl, lk, hcd⟩ := U.ex
  refine fn_of lk hcd S (fun vs H Q E ⟨Hs, ds, d, s, r, e, q⟩ => by rw [← r.length]; exact hlen ds d e) fun A outer s H vs Q E hr ⟨Hs, ds, d, sm, r, e, q⟩ => ?_
  refine ⟨_, hbody cdv A outer s H E hr E thr_cx rfl, ?_⟩
  have e2 := hF ds d e
  have hl := hlen ds d e
  unfold runX at e2
  have s0 : St1 K Hs H Hs H (startR N ds) (L2.start N vs) := start_st sm r (by lia)
  split at e2
  · rename_i d' q1
    cases e2
    exact ⟨Hs, H, _, Hs, _, s0, q1, fun v H' Hs' g rv => q v H' Hs' g rv⟩
  · rename_i ρ' q1
    cases e2
    exact ⟨Hs, H, _, Hs, _, s0, q1, fun σ' H' Hs' s' _ => q _ H' Hs' s'.gr .non⟩
  · rename_i C' q1
    cases e2
    exact ⟨Hs, H, _, Hs, _, s0, q1, fun H' Hs' g => q H' Hs' g⟩
  · cases e2
theorem dx_F {x : Str} {st : Stmt} {f : Addr} {fd : FuncData} {N ps : List Str} {k : Nat} {F : List D → Option Rx} {g : Fx} (hm : mg x = some (.ref f)) (U : Fun K x x st f fd) (hb : Binds K fd ps []) (S : FnScope N ps (defScope st)) (hlen : ∀ ds d, F ds = some d → ds.length = ps.length)
    (hbody : ∀ (cdv : Value) (A : Around) (outer : List Env) (s : Shared) (H : Hp) (E : XK), Room k (A.deeper (PyProof.Rows.envOfC x (defScope st) s.heap.objs.size f cdv)) →
      PFXs (cxOf (CX1 P w) P w K mg base N x (defScope st) f cdv A outer s H E) K (defBody st) g)
    (hF : ∀ ds d, F ds = some d → runX g (startR N ds) = some d) : Dx P w K mg base (k + 1) x ps F :=
  ⟨f, fd, hm, U.kp, hb, fn_X U S hlen hbody hF⟩
end
section
variable {X : Cx} {K : PySem.W.Frag} {e : Expr} {es : List Expr} {pos : Pos} {as : Rho → Option (List D)}
end
end DL
set_option maxHeartbeats 4000000
namespace PySem.W
open PySem PySem.Spec PySem.Calls PyProof.Rows Builtin Builtin.ObjectAttr Builtin.Getset_descriptor
structure ExcKit (K : Frag) (C : Addr) : Prop where
  ga : findIn K (.ref C) "__getattribute__" = some (some (.builtin "BaseException.__getattribute__"))
  gh : findIn K (.ref C) "__getattr__" = some none
  cl : findIn K (.ref C) "__class__" = some (some (.builtin "object.__class__"))
  mb : mroIn K C (.type "BaseException") = some true
  mo : mroIn K C (.type "object") = some true
  ic : (clsIn K C).isSome = true
section
variable {prog : Program} {w : World} {A : Around} {E : Value → Shared → Prop} {h : Heap} {g : Array GenState} {d : Drawn} {t : Nat} {os : OsState} {a C : Addr} {o : Obj} {K : Frag}
theorem exc_get {tp : Value} {R : Result → Shared → Prop} (Z : ExcKit K C) (X : K.In h) (hx : h.get? a = some o) (hc : o.cls = .ref C) (hq : R (.ok (.ret (.ref C))) ⟨h, g, d, t, os⟩) :
    codeAny (model prog w) A (.call (.builtin "getset_descriptor.__get__") ⟨[.builtin "object.__class__", .ref a, tp], []⟩) R ⟨h, g, d, t, os⟩ := by
  have L0 : Looks (model prog w) h (typeOf (.ref a)) (.ref C) := by rw [← hc]; exact (Looks.ld hx).andThen .now
  have L1 := looks_mroIn (M := model prog w) X Z.mo
  refine codeAny_call_builtin KF.slot_gs.plain KF.entry_gs (KF.slot_gs.check _ _ _ _ _ _ _ _ KF.type_class (KF.args_gs _ _ _) ?_)
  unfold Builtin.«getset_descriptor.__get__» descrGet
  rw [dga_obj]
  refine wpAny_bind (wpAny_pure ?_)
  unfold descrGetter descrCheckInstance descrNameAndClass isInstance
  simp only [KF.owner_class]
  repeat lk
  refine ⟨Code.quiet_builtin _ (by decide +kernel), codeAny_builtin KF.entry_class ?_⟩
  unfold Builtin.«object.__class__» shownTypeOf
  repeat lk
  exact hq
theorem exc_entry {tk : Tok} {Q : Fin → Shared → Prop} (Z : ExcKit K C) (X : K.In h) (hx : h.get? a = some o) (hc : o.cls = .ref C) (hq : Q (.done (.ret (.ref C))) ⟨h, g, d, t, os⟩) :
    wpAny (model prog w) A (Builtin.«object.__getattribute__» ⟨[.ref a, .str "__class__" tk], []⟩) Q E ⟨h, g, d, t, os⟩ := by
  have L0 : Looks (model prog w) h (typeOf (.ref a)) (.ref C) := by rw [← hc]; exact (Looks.ld hx).andThen .now
  have L1 := looks_findIn (M := model prog w) X Z.cl
  have f6 := F.slot_gs_get.lookup
  have f7 := F.slot_gs_set.lookup
  have f5 : typeOf (.builtin "object.__class__") = pure (.type "getset_descriptor") := by kernel_rfl
  have hT5 : (⟨h, g, d, t, os⟩ : Shared).TypeIs (.builtin "object.__class__") "getset_descriptor" := f5
  repeat (any_goals (first | assumption | with_reducible refine Looks.at L0 ?_ | with_reducible refine Looks.at L1 ?_ | (with_reducible refine wpAny_loadPart_at hx ?_; rw [hc]) | wp_step))
  refine exc_get Z X hx hc ?_
  repeat (any_goals (first | assumption | wp_step))
theorem exc_check {M : Model} {nameV : Value} {Q : Unit → Shared → Prop} (Z : ExcKit K C) (X : K.In h) (hx : h.get? a = some o) (hc : o.cls = .ref C) (hq : Q () ⟨h, g, d, t, os⟩) :
    wpAny M A (checkBuiltinCall "BaseException.__getattribute__" ⟨[.ref a, nameV], []⟩) Q E ⟨h, g, d, t, os⟩ := by
  have hk : builtinKind "BaseException.__getattribute__" = some .slot := by decide +kernel
  have hsplit : splitId "BaseException.__getattribute__" = some ("BaseException", "__getattribute__") := by decide +kernel
  have L0 : Looks M h (typeOf (.ref a)) (.ref C) := by rw [← hc]; exact (Looks.ld hx).andThen .now
  have L1 := looks_mroIn (M := M) X Z.mb
  have LI : Looks M h (isInstance (.ref a) (.type "BaseException")) true := L0.andThen L1
  have ha := F.args_bexc_ga (.ref a) nameV
  simp only [checkBuiltinCall, hk, hsplit]
  refine wpAny_bind (LI.at ?_)
  repeat (first | wp_step)
  exact hq
theorem exc_call {tk : Tok} {R : Result → Shared → Prop} (Z : ExcKit K C) (X : K.In h) (hx : h.get? a = some o) (hc : o.cls = .ref C) (hq : R (.ok (.ret (.ref C))) ⟨h, g, d, t, os⟩) :
    codeAny (model prog w) A (.call (.builtin "BaseException.__getattribute__") ⟨[.ref a, .str "__class__" tk], []⟩) R ⟨h, g, d, t, os⟩ :=
  codeAny_call_builtin PySem.F.attr_ValueError.ga.plain F.entry_bexc_ga (exc_check Z X hx hc (exc_entry Z X hx hc hq))
theorem exc_by {tk : Tok} {fill expr : Bool} {Q : Value → Shared → Prop} (Z : ExcKit K C) (X : K.In h) (hx : h.get? a = some o) (hc : o.cls = .ref C) (hq : Q (.ref C) ⟨h, g, d, t, os⟩) :
    wpAny (model prog w) A (getAttrBy (.ref a) (.str "__class__" tk) fill expr) Q E ⟨h, g, d, t, os⟩ := by
  have f3 := PySem.F.attr_ValueError.ga.bind (.ref a)
  have L0 : Looks (model prog w) h (typeOf (.ref a)) (.ref C) := by rw [← hc]; exact (Looks.ld hx).andThen .now
  have L1 := looks_findIn (M := model prog w) X Z.ga
  have L2 := looks_findIn (M := model prog w) X Z.gh
  have hx0 : (expr && onTheHeap (Value.builtin "BaseException.__getattribute__")) = false := by cases expr <;> rfl
  have hx2 : (Value.builtin "BaseException.__getattribute__" == Value.builtin "object.__getattribute__") = false := by decide +kernel
  have hx1 : (onTheHeap (Value.ref C) && Value.builtin "BaseException.__getattribute__" == Value.builtin "object.__getattribute__") = false := by rw [hx2]; rfl
  repeat (any_goals (first | assumption | with_reducible refine Looks.at L0 ?_ | with_reducible refine Looks.at L1 ?_ | with_reducible refine Looks.at L2 ?_ | (with_reducible refine wpAny_loadPart_at hx ?_; rw [hc]) | wp_step))
  refine exc_call Z X hx hc ?_
  repeat (any_goals (first | assumption | wp_step))
theorem exc_class {Q : Option Value → Shared → Prop} (Z : ExcKit K C) (X : K.In h) (hx : h.get? a = some o) (hc : o.cls = .ref C) (hq : Q (some (.ref C)) ⟨h, g, d, t + 1, os⟩) :
    wpAny (model prog w) A (getAttr? (.ref a) "__class__") Q E ⟨h, g, d, t, os⟩ := by
  unfold getAttr? getAttrBy?
  refine wpAny_bind (wpAny_mkText (wpAny_bind (wpAny_attempt (exc_by Z X hx hc (wpAny_pure hq)))))
theorem kitx_exc (Z : ExcKit K C) : KitX K (.ref a) (.ref C) (DL.excAt a C) where
  ty := fun M h X ⟨o, e, hc⟩ => by rw [← hc]; exact (Looks.ld e).andThen .now
  it := fun M h X _ => by
    obtain ⟨cd, hcD⟩ := Option.isSome_iff_exists.mp Z.ic
    unfold clsIn at hcD
    split at hcD
    · rename_i c' d' cd' sl' ho
      intro A' Q' E' s' k q
      unfold isType loadHead
      exact wpAny_bind (wpAny_loadPart (k _ _ (X _ _ ho)) (wpAny_pure q))
    · cases hcD
  ne := fun h tp dd its n sl X htp => by
    obtain ⟨cd, hcD⟩ := Option.isSome_iff_exists.mp Z.ic
    refine Bool.eq_false_iff.mpr fun q => ?_
    have e : C = tp := Value.ref.inj (beq_iff_eq.mp q)
    subst e
    unfold clsIn at hcD
    split at hcD
    · rename_i c' d' cd' sl' ho
      have z := (X _ _ ho).symm.trans htp
      cases z
    · cases hcD
  ca := fun {prog w A E Q s} X ⟨o, e, hc⟩ k => by
    obtain ⟨h, g, d, t, os⟩ := s
    exact exc_class Z X e hc k
end
end PySem.W
set_option maxHeartbeats 4000000
namespace DL
open PySem PySem.Spec L2 PyProof.Rows
structure IsK (K : PySem.W.Frag) (cs : List Value) (C : Addr) (bn be : Bool) : Prop where
  hn : PySem.W.kitAny K (.type "NoneType") cs = some bn
  he : PySem.W.kitAny K (.ref C) cs = some be
  kit : PySem.W.ExcKit K C
theorem kitAny_one {K : PySem.W.Frag} {t c : Value} {b : Bool} (h : PySem.W.kitAny K t [c] = some b) : PySem.W.kitOne K t c = some b := by
  unfold PySem.W.kitAny at h
  split at h
  · rename_i q; cases h; exact q
  · rename_i q; rw [q]; exact h
  · cases h
noncomputable def gAns (C : Addr) (bn be : Bool) : D → Option D
  | .non => some (.bl bn)
  | .exc C' => if C' = C then some (.bl be) else none
  | _ => none
section
variable {X : Cx} {K : PySem.W.Frag} {a : Expr} {f : Fe} {C : Addr} {bn be : Bool} {px p2 pos : Pos}
theorem isi_one {pins : List (Addr × Obj)} {σ : L2.St} {H : Hp} {s : Shared} {c u : Value} {y : V} {b : Bool} {d : D} {A : Around} {E : Value → Shared → Prop} {Q : Value → Shared → Prop} {Hs : Hp} (I : Inv X pins σ H s) (hk : IsK X.K [c] C bn be) (sm : Same Hs H) (r : Rep X.K Hs d y) (rv : RelV y u)
    (e : gAns C bn be d = some (.bl b)) (h : ∀ tk, Q (.bool b) { s with toks := tk }) : wpAny (model X.prog X.w) A (call (.builtin "isinstance") [u, c]) Q E s := by
  cases r with
  | non =>
    cases e
    cases (show u = Value.none from rv)
    exact PySem.W.kia_one PySem.W.kitx_none I.kIn True.intro (kitAny_one hk.hn) (fun z => nomatch z) h
  | @exc a C' hx =>
    have e' : (if C' = C then some (D.bl be) else none) = some (.bl b) := e
    split at e'
    · rename_i q
      cases e'
      subst q
      cases (show u = Value.ref a from rv)
      obtain ⟨p, _, _⟩ := I.hok a _ (sm _ _ hx)
      exact PySem.W.kia_one (PySem.W.kitx_exc hk.kit) I.kIn p (kitAny_one hk.he) (fun z => nomatch z) h
    · cases e'
  | _ => cases e
theorem isi_tup {pins : List (Addr × Obj)} {σ : L2.St} {H : Hp} {s : Shared} {u : Value} {cs : List Value} {vs : List V} {tp : Addr} {y : V} {b : Bool} {d : D} {A : Around} {E : Value → Shared → Prop} {Q : Value → Shared → Prop} {Hs : Hp} (I : Inv X pins σ H s) (hk : IsK X.K cs C bn be) (sm : Same Hs H) (r : Rep X.K Hs d y) (rv : RelV y u)
    (ht : H tp = some (.tup vs)) (hvs : ∀ us, Vals vs us → us = cs) (e : gAns C bn be d = some (.bl b)) (h : ∀ tk, Q (.bool b) { s with toks := tk }) : wpAny (model X.prog X.w) A (call (.builtin "isinstance") [u, .ref tp]) Q E s := by
  obtain ⟨_, its, rr, ⟨oc, od, odt, osl⟩, e1, e2, e3⟩ := I.hok tp _ ht
  have := hvs its rr
  subst this
  obtain ⟨n, e3⟩ := e3
  dsimp only at e2 e3
  subst e2 e3
  cases r with
  | non =>
    cases e
    cases (show u = Value.none from rv)
    exact PySem.W.kia_tup PySem.W.kitx_none I.kIn True.intro e1 hk.hn (fun z => nomatch z) h
  | @exc a C' hx =>
    have e' : (if C' = C then some (D.bl be) else none) = some (.bl b) := e
    split at e'
    · rename_i q
      cases e'
      subst q
      cases (show u = Value.ref a from rv)
      obtain ⟨p, _, _⟩ := I.hok a _ (sm _ _ hx)
      exact PySem.W.kia_tup (PySem.W.kitx_exc hk.kit) I.kIn p e1 hk.he (fun z => nomatch z) h
    · cases e'
  | _ => cases e
theorem gAns_bl {d z : D} (e : gAns C bn be d = some z) : ∃ b, z = .bl b := by
  unfold gAns at e
  split at e
  · cases e; exact ⟨_, rfl⟩
  · split at e
    · cases e; exact ⟨_, rfl⟩
    · cases e
  · cases e
theorem pf_instX {x : Str} {c : Value} {v : V} (hk : IsK K [c] C bn be) (hg : Gl X "isinstance") (hm : X.mg "isinstance" = none) (hx : PE X (.Name x p2) (tC v)) (hv : ∀ u, RelV v u → u = c) (ha : PF X K a f)
    (hs : starEach [a, .Name x p2] X.env = (false, eval a X.env) :: starEach [.Name x p2] X.env := by rfl) (hs2 : starEach [.Name x p2] X.env = (false, eval (.Name x p2) X.env) :: starEach [] X.env := by rfl) (hpl : (backTo pos (starEach [.Name x p2] X.env)).any (·.1) = false := by rfl) :
    PF X K (.Call (.Name "isinstance" px) [a, .Name x p2] [] pos) (f1 (gAns C bn be) f) := fun hK => by
  subst hK
  have cr : CallR X (.builtin "isinstance") (fun xs H Q => ∃ y d b Hs, xs = [y, v] ∧ Same Hs H ∧ Rep X.K Hs d y ∧ gAns C bn be d = some (.bl b) ∧ Q (.bl b) H) := by
    intro pins s σ H xs us Q I r h
    obtain ⟨y, d, b, Hs, rfl, sm, rp, e, q⟩ := h
    obtain ⟨u, w', rfl, r1, r2⟩ := vals2 r
    obtain rfl := hv _ r2
    exact isi_one I hk sm rp r1 e fun tk => ⟨.bl b, H, I.tok tk, rfl, q⟩
  refine PE.imp (pe_callB cr hg hm PyProof.Rows.boot_isinstance (pa_cons (ha rfl) (pa_cons hx pa_nil hs2) hs) (by decide) (by decide) hs hpl) fun σ H Q ⟨ρ, Hs, d, st, ef, k⟩ => ?_
  obtain ⟨y, e1, e2⟩ := bind1 ef
  obtain ⟨b, rfl⟩ := gAns_bl e2
  exact ⟨ρ, Hs, y, st, e1, fun v' H' Hs' g r => ⟨v', y, b, Hs', rfl, g.sub, r, e2, k _ H' Hs' g (.bl _)⟩⟩
theorem pf_instX2 {x1 x2 : Str} {C1 C2 : Addr} {p1 p3 tpos : Pos} {kk : Nat} (hk : IsK K [.ref C1, .ref C2] C bn be) (hg : Gl X "isinstance") (hm : X.mg "isinstance" = none) (hx1 : PE X (.Name x1 p1) (tC (.ref C1))) (hx2 : PE X (.Name x2 p3) (tC (.ref C2))) (ha : PF X K a f)
    (hs : starEach [a, .Tuple [.Name x1 p1, .Name x2 p3] kk tpos] X.env = (false, eval a X.env) :: starEach [.Tuple [.Name x1 p1, .Name x2 p3] kk tpos] X.env := by rfl) (hs2 : starEach [.Tuple [.Name x1 p1, .Name x2 p3] kk tpos] X.env = (false, eval (.Tuple [.Name x1 p1, .Name x2 p3] kk tpos) X.env) :: starEach [] X.env := by rfl)
    (hs3 : starEach [.Name x1 p1, .Name x2 p3] X.env = (false, eval (.Name x1 p1) X.env) :: starEach [.Name x2 p3] X.env := by rfl) (hs4 : starEach [.Name x2 p3] X.env = (false, eval (.Name x2 p3) X.env) :: starEach [] X.env := by rfl)
    (hpl : (backTo pos (starEach [.Tuple [.Name x1 p1, .Name x2 p3] kk tpos] X.env)).any (·.1) = false := by rfl) :
    PF X K (.Call (.Name "isinstance" px) [a, .Tuple [.Name x1 p1, .Name x2 p3] kk tpos] [] pos) (f1 (gAns C bn be) f) := fun hK => by
  subst hK
  have cr : CallR X (.builtin "isinstance") (fun xs H Q => ∃ y d b Hs tp, xs = [y, .ref tp] ∧ Same Hs H ∧ Rep X.K Hs d y ∧ gAns C bn be d = some (.bl b) ∧ H tp = some (.tup [.ref C1, .ref C2]) ∧ Q (.bl b) H) := by
    intro pins s σ H xs us Q I r h
    obtain ⟨y, d, b, Hs, tp, rfl, sm, rp, e, ht, q⟩ := h
    obtain ⟨u, w', rfl, r1, r2⟩ := vals2 r
    cases (show w' = Value.ref tp from r2)
    refine isi_tup I hk sm rp r1 ht (fun us r => ?_) e fun tk => ⟨.bl b, H, I.tok tk, rfl, q⟩
    obtain ⟨a1, a2, rfl, q1, q2⟩ := vals2 r
    rw [show a1 = Value.ref C1 from q1, show a2 = Value.ref C2 from q2]
  refine PE.imp (pe_callB cr hg hm PyProof.Rows.boot_isinstance (pa_cons (ha rfl) (pa_cons (pe_tup (pa_cons hx1 (pa_cons hx2 pa_nil hs4) hs3)) pa_nil hs2) hs) (by decide) (by decide) hs hpl) fun σ H Q ⟨ρ, Hs, d, st, ef, k⟩ => ?_
  obtain ⟨y, e1, e2⟩ := bind1 ef
  obtain ⟨b, rfl⟩ := gAns_bl e2
  refine ⟨ρ, Hs, y, st, e1, fun v' H' Hs' g r => ⟨by show 2 ≤ sizeLine; decide, fun t ht => ?_⟩⟩
  have g2 : Grow Hs' H' Hs' (upd H' t (.tup [.ref C1, .ref C2])) := ⟨Same.refl _, sm_upd ht, sm_updR g.sub (g.sub.free ht), fun b hb e => absurd e hb⟩
  exact ⟨v', y, b, Hs', t, rfl, g2.sub, r, e2, upd_same, k _ _ Hs' (g.trans g2) (.bl _)⟩
end
end DL
set_option maxHeartbeats 4000000
namespace DL
open PySem PySem.Spec L2 PyProof.Rows
structure MidH (x : Addr) (Hs H Hs' H' : Hp) : Prop where
  keep : ∀ b o, b ≠ x → H b = some o → H' b = some o
  hs : Same Hs Hs'
  new : ∀ b, Hs' b ≠ none → Hs b = none → H b = none
  sub : Same Hs' H'
  nx : Hs' x = none
section
variable {K : PySem.W.Frag} {Hs H Hs1 H1 Hs' H' : Hp} {y dy C : Addr}
theorem mk_same (g1 : Grow Hs H Hs1 H1) (ny : H1 y = none) (ndy : H1 dy = none) : Same Hs1 (upd (upd H1 dy (.own y)) y (.ins C dy [])) := sm_updR (sm_updR g1.sub (g1.sub.free ndy)) (g1.sub.free ny)
theorem mk_none (g1 : Grow Hs H Hs1 H1) (ny : H1 y = none) (ndy : H1 dy = none) : ∀ b, (upd (upd H1 dy (.own y)) y (.ins C dy [])) b = none → H b = none := fun b hb => by
  by_cases q : b = y
  · rw [q]; exact g1.h.free ny
  · rw [upd_ne q] at hb
    by_cases q2 : b = dy
    · rw [q2]; exact g1.h.free ndy
    · rw [upd_ne q2] at hb
      exact g1.h.free hb
theorem mk_keep (g1 : Grow Hs H Hs1 H1) (ny : H1 y = none) (ndy : H1 dy = none) (m : MidH y Hs1 (upd (upd H1 dy (.own y)) y (.ins C dy [])) Hs' H') : Same H H' := fun b o hb => by
  have h1 := g1.h b o hb
  have ny' : b ≠ y := ne_of_none h1 ny
  refine m.keep b o ny' ?_
  rw [upd_ne ny', upd_ne (ne_of_none h1 ndy)]
  exact h1
theorem mk_grow (g1 : Grow Hs H Hs1 H1) (ny : H1 y = none) (ndy : H1 dy = none) {fv : List (Str × V)} (m : MidH y Hs1 (upd (upd H1 dy (.own y)) y (.ins C dy [])) Hs' H') (hy : H' y = some (.ins C dy fv)) : Grow Hs H (upd Hs' y (.ins C dy fv)) H' := by
  have hs' : Same Hs' (upd Hs' y (.ins C dy fv)) := sm_upd m.nx
  refine ⟨(g1.hs.trans m.hs).trans hs', mk_keep g1 ny ndy m, fun b o hb => ?_, fun b hb hb2 => ?_⟩
  · by_cases q : b = y
    · subst q; rw [upd_same] at hb; cases hb; exact hy
    · rw [upd_ne q] at hb; exact m.sub b o hb
  · by_cases q : b = y
    · rw [q]; exact g1.h.free ny
    · rw [upd_ne q] at hb
      cases z : Hs1 b with
      | some o => exact g1.new b (by rw [z]; simp) hb2
      | none => exact mk_none g1 ny ndy b (m.new b hb z)
theorem mk_exc (g1 : Grow Hs H Hs1 H1) (ny : H1 y = none) (ndy : H1 dy = none) {a B : Addr} (m : MidH y Hs1 (upd (upd H1 dy (.own y)) y (.ins C dy [])) Hs' H') (ha : H' a = none) : Grow Hs H (upd Hs' a (.ext (excAt a B))) (upd H' a (.ext (excAt a B))) := by
  have hsa : Hs' a = none := m.sub.free ha
  have k := mk_keep g1 ny ndy m
  refine ⟨(g1.hs.trans m.hs).trans (sm_upd hsa), k.trans (sm_upd ha), sm_upd2 m.sub, fun b hb hb2 => ?_⟩
  by_cases q : b = a
  · rw [q]; exact k.free ha
  · rw [upd_ne q] at hb
    cases z : Hs1 b with
    | some o => exact g1.new b (by rw [z]; simp) hb2
    | none => exact mk_none g1 ny ndy b (m.new b hb z)
end
section
variable {X : Cx} {K : PySem.W.Frag} {k : Nat} {x : Str} {C : Addr} {p pos : Pos} {e : Expr} {es : List Expr} {as : Rho → Option (List D)} {ps ns : List Str} {FM : List D → Option (List D ⊕ Addr)}
theorem St1.unset {K : PySem.W.Frag} {Hs₀ H₀ Hs H : Hp} {ρ : Rho} {σ : L2.St} {j : Nat} (s : St1 K Hs₀ H₀ Hs H ρ σ) : St1 K Hs₀ H₀ Hs H (ρ.set j none) (σ.set j none) := by
  have ne : ∀ {i : Nat} {sl : Sl}, (ρ.set j none)[i]? = some (some sl) → i ≠ j ∧ ρ[i]? = some (some sl) := fun {i sl} h => by
    by_cases q : j = i
    · subst q
      rw [List.getElem?_set] at h
      rw [if_pos rfl] at h
      split at h <;> cases h
    · rw [List.getElem?_set_ne q] at h
      exact ⟨Ne.symm q, h⟩
  refine ⟨⟨s.st.sub, by rw [List.length_set, List.length_set]; exact s.st.len, fun i sl h => ?_⟩, s.gr, fun i ds a h1 h2 => ?_, fun i i' ds es a h1 h2 h3 h4 => ?_⟩
  · obtain ⟨n, h⟩ := ne h
    rw [List.getElem?_set_ne (Ne.symm n)]
    exact s.st.slot i sl h
  · obtain ⟨n, h⟩ := ne h1
    rw [List.getElem?_set_ne (Ne.symm n)] at h2
    exact s.fresh i ds a h h2
  · obtain ⟨n, h⟩ := ne h1
    obtain ⟨n', h'⟩ := ne h2
    rw [List.getElem?_set_ne (Ne.symm n)] at h3
    rw [List.getElem?_set_ne (Ne.symm n')] at h4
    exact s.apart i i' ds es a h h' h3 h4
end
end DL
set_option maxHeartbeats 4000000
namespace L2
open PySem PySem.Spec PyProof.Rows
section
variable {κ : Type} [DecidableEq κ]
noncomputable def valV (kvs : List (κ × V)) (k : κ) : Option V := (kvs.find? fun kv => decide (kv.1 = k)).map (·.2)
noncomputable def putK (kvs : List (κ × V)) (k : κ) (v : V) : List (κ × V) :=
  if (kvs.any fun kv => decide (kv.1 = k)) = true then kvs.map (fun kv => if kv.1 = k then (kv.1, v) else kv) else kvs ++ [(k, v)]
theorem valV_pos {p : κ × V} {r : List (κ × V)} {k : κ} (e : p.1 = k) : valV (p :: r) k = some p.2 := by simp [valV, List.find?_cons, e]
theorem valV_neg {p : κ × V} {r : List (κ × V)} {k : κ} (e : ¬ p.1 = k) : valV (p :: r) k = valV r k := by simp [valV, List.find?_cons, e]
theorem valV_any (k : κ) : ∀ kvs : List (κ × V), (kvs.any fun kv => decide (kv.1 = k)) = (valV kvs k).isSome
  | [] => rfl
  | p :: r => by
    rw [List.any_cons]
    by_cases e : p.1 = k
    · simp only [valV_pos e, decide_eq_true e, Bool.true_or, Option.isSome_some]
    · rw [valV_neg e, decide_eq_false e, Bool.false_or]; exact valV_any k r
theorem length_putK (kvs : List (κ × V)) (k : κ) (v : V) : (putK kvs k v).length ≤ kvs.length + 1 := by
  unfold putK
  split
  · rw [List.length_map]; omega
  · rw [List.length_append, List.length_cons, List.length_nil]; omega
theorem RelO.isSome_eq {o : Option V} {u : Option Value} (r : RelO o u) : o.isSome = u.isSome := by
  cases o with
  | none => cases u with
    | none => rfl
    | some _ => exact (show False from r).elim
  | some _ => cases u with
    | none => exact (show False from r).elim
    | some _ => rfl
theorem KV.val {kvs : List (κ × V)} {vs : List (κ × Value)} (r : KV kvs vs) (k : κ) : RelO (valV kvs k) (valueAt vs k) := by
  unfold KV at r
  induction r with
  | nil => exact True.intro
  | @cons p q ps qs h t ih =>
    obtain ⟨h1, h2⟩ := h
    by_cases e : p.1 = k
    · have e' : q.1 = k := h1.symm.trans e
      have b : valueAt (q :: qs) k = some q.2 := by simp [valueAt, List.find?_cons, e']
      rw [valV_pos e, b]; exact h2
    · have e' : ¬ q.1 = k := fun z => e (h1.trans z)
      have b : valueAt (q :: qs) k = valueAt qs k := by simp [valueAt, List.find?_cons, e']
      rw [valV_neg e, b]; exact ih
theorem KV.any {kvs : List (κ × V)} {vs : List (κ × Value)} (r : KV kvs vs) (k : κ) : (kvs.any fun kv => decide (kv.1 = k)) = vs.any fun kv => decide (kv.1 = k) := by
  unfold KV at r
  induction r with
  | nil => rfl
  | cons h t ih => rw [List.any_cons, List.any_cons, ih, h.1]
theorem KV.repl {kvs : List (κ × V)} {vs : List (κ × Value)} (r : KV kvs vs) (k : κ) {y : V} {u : Value} (ry : RelV y u) :
    KV (kvs.map fun kv => if kv.1 = k then (kv.1, y) else kv) (vs.map fun kv => if kv.1 = k then (kv.1, u) else kv) := by
  unfold KV at r ⊢
  induction r with
  | nil => exact .nil
  | @cons p q ps qs h t ih =>
    rw [List.map_cons, List.map_cons]
    refine .cons ?_ ih
    obtain ⟨h1, h2⟩ := h
    by_cases e : p.1 = k
    · rw [if_pos e, if_pos (h1.symm.trans e)]; exact ⟨h1, ry⟩
    · rw [if_neg e, if_neg (fun z => e (h1.trans z))]; exact ⟨h1, h2⟩
theorem KV.put {kvs : List (κ × V)} {vs : List (κ × Value)} (r : KV kvs vs) (k : κ) {y : V} {u : Value} (ry : RelV y u) : KV (putK kvs k y) (stored vs k u) := by
  unfold putK stored
  rw [r.any k]
  by_cases e : (vs.any fun kv => decide (kv.1 = k)) = true
  · rw [if_pos e, if_pos e]; exact r.repl k ry
  · rw [if_neg e, if_neg e]; exact Paired.snoc r ⟨rfl, ry⟩
theorem KV.length {kvs : List (κ × V)} {vs : List (κ × Value)} (r : KV kvs vs) : kvs.length = vs.length := Paired.length r
end
theorem kV_is {P : Program} {w : World} {k : Key} {u : Value} (r : RelV (kV k) u) : (mixKind P w).is k u = true := by
  cases k with
  | inl i => obtain ⟨t, e⟩ := (show ∃ t, u = Value.int i t from r); subst e; exact mixKind_int P w i t
  | inr x => obtain ⟨t, e⟩ := (show ∃ t, u = Value.str x t from r); subst e; exact mixKind_str P w x t
theorem items_are {P : Program} {w : World} : ∀ {ks : List Key} {us : List Value}, Vals (ks.map kV) us → ItemsAre (mixKind P w) ks us
  | [], _, r => by rw [List.map_nil] at r; cases r; exact .nil
  | k :: ks, _, r => by
    rw [List.map_cons] at r
    cases r with
    | cons h t => exact .cons (kV_is h) (items_are t)
noncomputable abbrev KT (H : Hp) : List (List Key × V) → List (List Key × Addr × Value) → Prop := Paired fun p q => p.1 = q.1 ∧ H q.2.1 = some (.tup (p.1.map kV)) ∧ RelV p.2 q.2.2
theorem KT.val {H : Hp} {kvs : List (List Key × V)} {xs : List (List Key × Addr × Value)} (r : KT H kvs xs) (k : List Key) : RelO (valV kvs k) ((atKey xs k).map (·.2)) := by
  induction r with
  | nil => exact True.intro
  | @cons p q ps qs h t ih =>
    obtain ⟨h1, _, h2⟩ := h
    by_cases e : p.1 = k
    · have e' : q.1 = k := h1.symm.trans e
      have b : atKey (q :: qs) k = some q.2 := by simp [atKey, List.find?_cons, e']
      rw [valV_pos e, b]; exact h2
    · have e' : ¬ q.1 = k := fun z => e (h1.trans z)
      have b : atKey (q :: qs) k = atKey qs k := by simp [atKey, List.find?_cons, e']
      rw [valV_neg e, b]; exact ih
theorem KT.repl {H : Hp} {kvs : List (List Key × V)} {xs : List (List Key × Addr × Value)} (r : KT H kvs xs) (k : List Key) {y : V} {u : Value} (ry : RelV y u) :
    KT H (kvs.map fun kv => if kv.1 = k then (kv.1, y) else kv) (xs.map (putAt k u)) := by
  induction r with
  | nil => exact .nil
  | @cons p q ps qs h t ih =>
    rw [List.map_cons, List.map_cons]
    refine .cons ?_ ih
    obtain ⟨h1, h2, h3⟩ := h
    unfold putAt
    by_cases e : p.1 = k
    · rw [if_pos e, if_pos (h1.symm.trans e)]; exact ⟨h1, h2, ry⟩
    · rw [if_neg e, if_neg (fun z => e (h1.trans z))]; exact ⟨h1, h2, h3⟩
theorem KT.put {H : Hp} {kvs : List (List Key × V)} {xs : List (List Key × Addr × Value)} (r : KT H kvs xs) (k : List Key) {b : Addr} {y : V} {u : Value} (hb : H b = some (.tup (k.map kV))) (ry : RelV y u) :
    KT H (putK kvs k y) (storedH xs k b u) := by
  have e : (kvs.any fun kv => decide (kv.1 = k)) = (atKey xs k).isSome := by
    rw [valV_any, (r.val k).isSome_eq, Option.isSome_map]
  unfold putK storedH
  rw [e]
  by_cases q : (atKey xs k).isSome = true
  · rw [if_pos q, if_pos q]; exact r.repl k ry
  · rw [if_neg q, if_neg q]; exact Paired.snoc r ⟨rfl, hb, ry⟩
theorem KT.keeps {H H' : Hp} {kvs : List (List Key × V)} {xs : List (List Key × Addr × Value)} (r : KT H kvs xs) (ht : ∀ b ys, H b = some (.tup ys) → H' b = some (.tup ys)) : KT H' kvs xs :=
  Paired.mapP r fun _ _ z => ⟨z.1, ht _ _ z.2.1, z.2.2⟩
section
variable {P : Program} {w : World} {H : Hp} {h : Heap} {a : Addr}
theorem rd_of {u : HO} (ok : HOk P w H h) (e : Rd H a u) : ObjOk P w H h a u := e.ok ok
theorem dk_rd {kvs : List (Key × V)} (ok : HOk P w H h) (e : Rd H a (.dK kvs)) : kvs.length ≤ sizeLine ∧ (a == sysModules) = false ∧ ∃ vs, KV kvs vs ∧ h.DictOf (mixKind P w) a vs :=
  show ObjOk P w H h a (.dK kvs) from rd_of ok e
theorem dk_of {kvs : List (Key × V)} (ok : HOk P w H h) (e : H a = some (.dK kvs)) : kvs.length ≤ sizeLine ∧ (a == sysModules) = false ∧ ∃ vs, KV kvs vs ∧ h.DictOf (mixKind P w) a vs := dk_rd ok (.inl e)
theorem key_of {ks : List Key} (ok : HOk P w H h) (e : H a = some (.tup (ks.map kV))) : (tupleKind (mixKind P w)).is h ks a := by
  obtain ⟨_, its, r, o, h1, h2, n, h3⟩ := (show ObjOk P w H h a (.tup (ks.map kV)) from ok a _ e)
  exact ⟨o, its.toArray, n, h1, h2, h3, by simpa using items_are r⟩
theorem dt_rd {kvs : List (List Key × V)} (ok : HOk P w H h) (e : Rd H a (.dT kvs)) : kvs.length ≤ sizeLine ∧ (a == sysModules) = false ∧
    ∃ xs, KT H kvs xs ∧ h.DictOfH (tupleKind (mixKind P w)) a xs := by
  obtain ⟨z, y, xs, r, o, es, ep, h1, h2, h3, h4, h5⟩ := (show ObjOk P w H h a (.dT kvs) from rd_of ok e)
  refine ⟨z, y, xs, r, o, es, ep, h1, h2, h3, h4, fun x hx => ?_, h5⟩
  have all : ∀ {l : List (List Key × V)} {m : List (List Key × Addr × Value)}, KT H l m → ∀ x ∈ m, (tupleKind (mixKind P w)).is h x.1 x.2.1 := by
    intro l m q
    induction q with
    | nil => intro x hx; exact nomatch hx
    | @cons p q ps qs hq t ih =>
      intro x hx
      rcases List.mem_cons.mp hx with e | hx
      · subst e
        exact key_of ok (by rw [← hq.1]; exact hq.2.1)
      · exact ih x hx
  exact all r x hx
theorem dt_of {kvs : List (List Key × V)} (ok : HOk P w H h) (e : H a = some (.dT kvs)) : kvs.length ≤ sizeLine ∧ (a == sysModules) = false ∧
    ∃ xs, KT H kvs xs ∧ h.DictOfH (tupleKind (mixKind P w)) a xs := dt_rd ok (.inl e)
end
noncomputable def DGet (H : Hp) (a : Addr) (y : V) (r : Option V) : Prop :=
  (∃ kvs k, Rd H a (.dK kvs) ∧ y = kV k ∧ r = valV kvs k) ∨ ∃ kvs k b, Rd H a (.dT kvs) ∧ y = .ref b ∧ H b = some (.tup (k.map kV)) ∧ r = valV kvs k
noncomputable def DPut (H : Hp) (a : Addr) (y v : V) (H' : Hp) : Prop :=
  (∃ kvs k, H a = some (.dK kvs) ∧ y = kV k ∧ kvs.length < sizeLine ∧ H' = upd H a (.dK (putK kvs k v))) ∨
  ∃ kvs k b, H a = some (.dT kvs) ∧ y = .ref b ∧ H b = some (.tup (k.map kV)) ∧ kvs.length < sizeLine ∧ H' = upd H a (.dT (putK kvs k v))
theorem DGet.k {H : Hp} {a : Addr} {kvs : List (Key × V)} {k : Key} (e : H a = some (.dK kvs)) : DGet H a (kV k) (valV kvs k) := .inl ⟨kvs, k, .inl e, rfl, rfl⟩
theorem DGet.t {H : Hp} {a b : Addr} {kvs : List (List Key × V)} {k : List Key} (e : H a = some (.dT kvs)) (eb : H b = some (.tup (k.map kV))) : DGet H a (.ref b) (valV kvs k) := .inr ⟨kvs, k, b, .inl e, rfl, eb, rfl⟩
theorem DPut.k {H : Hp} {a : Addr} {kvs : List (Key × V)} {k : Key} {v : V} (e : H a = some (.dK kvs)) (hl : kvs.length < sizeLine) : DPut H a (kV k) v (upd H a (.dK (putK kvs k v))) := .inl ⟨kvs, k, e, rfl, hl, rfl⟩
theorem DPut.t {H : Hp} {a b : Addr} {kvs : List (List Key × V)} {k : List Key} {v : V} (e : H a = some (.dT kvs)) (eb : H b = some (.tup (k.map kV))) (hl : kvs.length < sizeLine) :
    DPut H a (.ref b) v (upd H a (.dT (putK kvs k v))) := .inr ⟨kvs, k, b, e, rfl, eb, hl, rfl⟩
section
variable {X : Cx} {pins : List (Addr × Obj)} {σ : St} {H : Hp} {s : Shared} {a : Addr} {y v : V} {u r : Value} {o : Option V} {A : Around} {E : Value → Shared → Prop}
theorem Inv.big (I : Inv X pins σ H s) : sysModules < s.heap.objs.size := by
  have h : mainGlobals < s.heap.objs.size := (I.mod.glob.keeps I.bk).lt
  exact Nat.lt_trans (by decide) h
theorem d_in {Q : Value → Shared → Prop} (hu : A.units + 1 < cLine) (I : Inv X pins σ H s) (g : DGet H a y o) (ry : RelV y u) (h : ∀ s', Inv X pins σ H s' → Q (.bool o.isSome) s') :
    wpAny (model X.prog X.w) A (compareOp .In u (.ref a)) Q E s := by
  rcases g with ⟨kvs, k, e, ey, l⟩ | ⟨kvs, k, b, e, ey, eb, l⟩
  · subst ey
    obtain ⟨z, hd, vs, rel, dd⟩ := dk_rd I.hok e
    refine wpAny_in_of (kV_is ry) hd dd.mapOf ?_
    rw [← (rel.val k).isSome_eq, ← l]
    exact h _ (I.tok _)
  · subst ey
    cases (show u = Value.ref b from ry)
    obtain ⟨z, hd, xs, rel, dd⟩ := dt_rd I.hok e
    refine wpAny_in_heap (tupleKind_room_in1 hu) (key_of I.hok eb) hd dd ?_
    have q := (rel.val k).isSome_eq
    rw [Option.isSome_map] at q
    rw [← q, ← l]
    exact h _ (I.tok _)
theorem d_write {h' : Heap} {t' : Nat} {ob : HO} (I : Inv X pins σ H s) (mu : Mut (H a)) (hs : Heap.SameBut a s.heap h') (he : ∃ q, h'.get? a = some q) (new : ObjOk X.prog X.w (upd H a ob) h' a ob) :
    Inv X pins σ (upd H a ob) { s with heap := h', toks := t' } :=
  I.write (x := a) (e := a) mu (.inl rfl) (fun b q hb z => (hs.2 b hb).trans z) he new
theorem dk_new {P : Program} {w : World} {H' : Hp} {h' : Heap} {kvs : List (Key × V)} {vs : List (Key × Value)} (z : kvs.length ≤ sizeLine) (hd : (a == sysModules) = false) (rel : KV kvs vs) (dd : h'.DictOf (mixKind P w) a vs) :
    ObjOk P w H' h' a (.dK kvs) := ⟨z, hd, vs, rel, dd⟩
theorem d_setItem {H' : Hp} {Q : Unit → Shared → Prop} (hu : A.units + 1 < cLine) (I : Inv X pins σ H s) (g : DPut H a y v H') (ry : RelV y u) (rv : RelV v r) (h : ∀ s', Inv X pins σ H' s' → Q () s') :
    wpAny (model X.prog X.w) A (setItem (.ref a) u r) Q E s := by
  rcases g with ⟨kvs, k, e, ey, l, eH⟩ | ⟨kvs, k, b, e, ey, eb, l, eH⟩
  · subst ey eH
    obtain ⟨z, hd, vs, rel, dd⟩ := dk_of I.hok e
    have hz : vs.length ≤ sizeLine := by rw [← rel.length]; exact z
    have hl : (putK kvs k v).length ≤ sizeLine := by have := length_putK kvs k v; omega
    refine wpAny_setItem_pairs (hsz := hz) (kV_is ry) dd fun h' dd' hs => h _ ?_
    have he : ∃ q, h'.get? a = some q := let ⟨q, _, _, hq, _⟩ := dd'; ⟨q, hq⟩
    exact d_write I (by rw [e]; exact True.intro) hs he (dk_new hl hd (rel.put k rv) dd')
  · subst ey eH
    cases (show u = Value.ref b from ry)
    obtain ⟨z, hd, xs, rel, dd⟩ := dt_of I.hok e
    have hz : xs.length ≤ sizeLine := by rw [← Paired.length rel]; exact z
    have hl : (putK kvs k v).length ≤ sizeLine := by have := length_putK kvs k v; omega
    refine wpAny_setItem_heap (hsz := hz) (tupleKind_room_in1 hu) (key_of I.hok eb) dd fun h' dd' hs => h _ ?_
    obtain ⟨q, es, ep, hq, h2, h3, h4, _, h5⟩ := dd'
    refine d_write I (by rw [e]; exact True.intro) hs ⟨q, hq⟩ ⟨hl, hd, _, (rel.put k eb rv).keeps fun c ys ec => ?_, q, es, ep, hq, h2, h3, h4, h5⟩
    rw [upd_ne (ne_of ec e (fun z => nomatch z))]
    exact ec
end
section
variable {X : Cx} {pins : List (Addr × Obj)} {σ : St} {H : Hp} {s : Shared} {a : Addr} {kvs : List (Key × V)} {k : Key} {u : Value} {A : Around} {E : Value → Shared → Prop}
end
noncomputable def tDIn (ty td : TE) : TE := fun σ H Q => ty σ H fun y H1 => td σ H1 fun x H2 => ∃ a o, x = .ref a ∧ DGet H2 a y o ∧ Q (.bl o.isSome) H2
noncomputable def sDPut (td ty tv : TE) : TS := fun D σ H => tv σ H fun v H1 => td σ H1 fun x H2 => ty σ H2 fun y H3 => ∃ a H4, x = .ref a ∧ DPut H3 a y v H4 ∧ D.nx σ H4
section
variable {X : Cx} {o i e value : Expr} {pos pos' tpos : Pos} {td ty tv : TE}
theorem pc_din (hu : X.A.units + 1 < cLine) (hi : PE X i ty) (ho : PE X o td) : PC X .In i o (tDIn ty td) := by
  intro pins s σ H Q I h
  refine thn (hi pins s σ H _ I h) fun iv s1 ⟨y, H1, I1, ry, q1⟩ => thn (ho pins s1 σ H1 _ I1 q1) fun u s2 ⟨x, H2, I2, rx, a, ov, ex, g, q2⟩ => ?_
  subst ex
  obtain rfl : u = Value.ref a := rx
  exact d_in hu I2 g ry fun s3 I3 => ⟨.bl ov.isSome, H2, I3, rfl, q2⟩
theorem ps_dput (hu : X.A.units + 1 < cLine) (ho : PE X o td) (hi : PE X i ty) (hv : PE X value tv) (hs : swapsWith value (some (.Subscript o i pos')) pos.line X.env = pure false) :
    PS X (.Assign [.Subscript o i pos'] value pos) (sDPut td ty tv) := by
  intro pins s σ H D I h
  refine wpAny_Assign_Subscript (thn (hv pins s σ H _ I h) fun r s1 ⟨v, H1, I1, rv, q1⟩ => thn (ho pins s1 σ H1 _ I1 q1) fun u s2 ⟨x, H2, I2, rx, q2⟩ => thn (hi pins s2 σ H2 _ I2 q2) fun iv s3 ⟨y, H3, I3, ry, a, H4, ex, g, q3⟩ => ?_) hs
  subst ex
  obtain rfl : u = Value.ref a := rx
  exact d_setItem hu I3 g ry rv fun s4 I4 => ⟨σ, H4, I4, q3⟩
end
theorem dt_empty {P : Program} {w : World} {H : Hp} (h : Heap) (hb : sysModules < h.objs.size) : ObjOk P w H (h.push { cls := .type "dict", data := .dict #[] }) h.objs.size (.dT []) :=
  ⟨Nat.zero_le _, beq_eq_false_iff_ne.mpr (Ne.symm (Nat.ne_of_lt hb)), [], .nil, _, #[], 0, Heap.get?_push_size _ rfl, ⟨rfl, rfl, rfl⟩, rfl, rfl, List.nodup_nil⟩
noncomputable def tDNewT : TE := fun _ H Q => ∀ p, H p = none → Q (.ref p) (upd H p (.dT []))
section
variable {X : Cx} {pos : Pos}
theorem pe_dnewT : PE X (.Dict [] [] pos) tDNewT := fun pins s σ H Q I h =>
  wpAny_Dict_empty ⟨.ref s.heap.objs.size, _, I.laid (a := s.heap.objs.size) (o := .dT []) (t' := s.toks) (fun _ _ q => Heap.get?_push_of_some _ q) (Nat.le_refl _) (dt_empty s.heap I.big), rfl, h _ (I.hok.fresh (Nat.le_refl _))⟩
end
structure M2 (X : Cx) (o : Expr) (m : Str) (apos : Pos) (e f : Expr) (cpos : Pos) : Prop where
  base : attributeBase o m X.env (eval o X.env) = eval o X.env
  few : ((backTo cpos (starEach [e, f] X.env)).all (fun x => !x.1) && (backToKw cpos (keywordEach [] X.env)).all (fun x => x.1.isSome)
    && decide (([e, f] : List Expr).length + ([] : List Keyword).length + (if ([] : List Keyword).isEmpty then 0 else 1) < 30)) = true
  line : (apos.endLine == cpos.line) = true
  trees : backTo cpos (starEach [e, f] X.env) = [(false, eval e X.env), (false, eval f X.env)]
section
variable {X : Cx} {pins : List (Addr × Obj)} {σ : St} {H : Hp} {s : Shared} {a : Addr} {y d : V} {u r : Value} {o : Option V} {A : Around} {E : Value → Shared → Prop}
end
section
variable {X : Cx} {o e f : Expr} {apos cpos : Pos} {td ty tx : TE}
end
section
variable {X : Cx} {pins : List (Addr × Obj)} {σ : St} {H : Hp} {s : Shared} {a : Addr} {kvs : List (Key × V)} {A : Around} {E : Value → Shared → Prop}
end
section
variable {X : Cx} {pins : List (Addr × Obj)} {σ : St} {H : Hp} {s : Shared} {a : Addr} {y : V} {u : Value} {A : Around} {E : Value → Shared → Prop}
end
end L2
namespace L2
open PySem PySem.Spec PyProof.Rows
section
variable {X : Cx}
end
section
variable {κ : Type} [DecidableEq κ]
end
end L2
set_option maxHeartbeats 4000000
namespace DL
open PySem PySem.Spec L2
noncomputable def asKey : D → Option Key
  | .int i => some (.inl i)
  | .str x => some (.inr x)
  | _ => none
noncomputable def asKeys : D → Option (List Key)
  | .tup ds => ds.mapM asKey
  | _ => none
section
variable {κ : Type} [DecidableEq κ]
noncomputable def lookK : List κ → List D → κ → Option D
  | k :: ks, d :: ds, x => if k = x then some d else lookK ks ds x
  | _, _, _ => none
noncomputable def putKs (ks : List κ) (x : κ) : List κ := if x ∈ ks then ks else ks ++ [x]
noncomputable def putDs : List κ → List D → κ → D → List D
  | k :: ks, e :: ds, x, d => if k = x then d :: ds else e :: putDs ks ds x d
  | _, _, _, d => [d]
section
variable {K : PySem.W.Frag} {H : Hp}
theorem look_val : ∀ {kvs : List (κ × V)} {ds : List D} {x : κ}, Reps K H ds (kvs.map (·.2)) → (∀ d, lookK (kvs.map (·.1)) ds x = some d → ∃ v, valV kvs x = some v ∧ Rep K H d v) ∧ (lookK (kvs.map (·.1)) ds x = none → valV kvs x = none)
  | [], _, x, r => by cases r; exact ⟨(fun d e => by cases e), fun _ => rfl⟩
  | (k, v) :: kvs, ds, x, r => by
    cases r with
    | @cons d _ ds _ r rs =>
      obtain ⟨h1, h2⟩ := look_val (x := x) rs
      by_cases q : k = x
      · refine ⟨fun d' e => ?_, fun e => ?_⟩
        · have e' : (if k = x then some d else lookK (kvs.map (·.1)) ds x) = some d' := e
          rw [if_pos q] at e'
          cases e'
          exact ⟨v, valV_pos q, r⟩
        · have e' : (if k = x then some d else lookK (kvs.map (·.1)) ds x) = none := e
          rw [if_pos q] at e'
          cases e'
      · refine ⟨fun d' e => ?_, fun e => ?_⟩
        · have e' : (if k = x then some d else lookK (kvs.map (·.1)) ds x) = some d' := e
          rw [if_neg q] at e'
          rw [valV_neg q]
          exact h1 d' e'
        · have e' : (if k = x then some d else lookK (kvs.map (·.1)) ds x) = none := e
          rw [if_neg q] at e'
          rw [valV_neg q]
          exact h2 e'
theorem putK_cons {k x : κ} {v w : V} {kvs : List (κ × V)} (q : k ≠ x) : putK ((k, v) :: kvs) x w = (k, v) :: putK kvs x w := by
  unfold putK
  have e : ((((k, v) :: kvs).any fun kv => decide (kv.1 = x)) = true) ↔ ((kvs.any fun kv => decide (kv.1 = x)) = true) := by
    rw [List.any_cons, decide_eq_false q, Bool.false_or]
  by_cases z : (kvs.any fun kv => decide (kv.1 = x)) = true
  · rw [if_pos (e.mpr z), if_pos z, List.map_cons, if_neg q]
  · rw [if_neg (fun y => z (e.mp y)), if_neg z]
    rfl
theorem putK_pos {k x : κ} {v w : V} {kvs : List (κ × V)} (q : k = x) (nd : x ∉ kvs.map (·.1)) : putK ((k, v) :: kvs) x w = (k, w) :: kvs := by
  unfold putK
  rw [if_pos (by rw [List.any_cons, decide_eq_true q]; rfl), List.map_cons, if_pos q]
  congr 1
  have : ∀ p ∈ kvs, (if p.1 = x then (p.1, w) else p) = p := fun p hp => if_neg fun (z : p.1 = x) => nd (by rw [← z]; exact List.mem_map.mpr ⟨p, hp, rfl⟩)
  exact (List.map_congr_left this).trans (List.map_id' kvs)
theorem putK_rep : ∀ {kvs : List (κ × V)} {ds : List D} {x : κ} {d : D} {w : V}, (kvs.map (·.1)).Nodup → Reps K H ds (kvs.map (·.2)) → Rep K H d w → (putK kvs x w).map (·.1) = putKs (kvs.map (·.1)) x ∧ Reps K H (putDs (kvs.map (·.1)) ds x d) ((putK kvs x w).map (·.2))
  | [], _, x, d, w, _, r, q => by cases r; exact ⟨rfl, .cons q .nil⟩
  | (k, v) :: kvs, ds, x, d, w, nd, r, q => by
    cases r with
    | @cons e _ ds _ r rs =>
      have nd' : (k :: kvs.map (·.1)).Nodup := nd
      obtain ⟨n1, n2⟩ := List.nodup_cons.mp nd'
      by_cases z : k = x
      · rw [putK_pos z (z ▸ n1)]
        refine ⟨?_, ?_⟩
        · show k :: kvs.map (·.1) = putKs (k :: kvs.map (·.1)) x
          unfold putKs
          rw [if_pos (by rw [z]; exact List.mem_cons_self)]
        · show Reps K H (if k = x then d :: ds else e :: putDs (kvs.map (·.1)) ds x d) _
          rw [if_pos z]
          exact .cons q rs
      · obtain ⟨h1, h2⟩ := putK_rep (x := x) (d := d) (w := w) n2 rs q
        rw [putK_cons z]
        refine ⟨?_, ?_⟩
        · show k :: (putK kvs x w).map (·.1) = putKs (k :: kvs.map (·.1)) x
          rw [h1]
          unfold putKs
          by_cases y : x ∈ kvs.map (·.1)
          · rw [if_pos y, if_pos (List.mem_cons_of_mem _ y)]
          · rw [if_neg y, if_neg (fun m => (List.mem_cons.mp m).elim (fun m => z m.symm) y)]
            rfl
        · show Reps K H (if k = x then d :: ds else e :: putDs (kvs.map (·.1)) ds x d) _
          rw [if_neg z]
          exact .cons r h2
end
end
theorem key_rep {K : PySem.W.Frag} {H : Hp} {d : D} {v : V} {k : Key} (r : Rep K H d v) (e : asKey d = some k) : v = kV k := by
  cases r <;> first | (cases e; done) | (cases e; rfl)
theorem keys_rep {K : PySem.W.Frag} {H : Hp} : ∀ {ds : List D} {vs : List V} {ks : List Key}, Reps K H ds vs → ds.mapM asKey = some ks → vs = ks.map kV
  | _, _, ks, .nil, e => by cases e; rfl
  | d :: ds, _, ks, .cons r rs, e => by
    rw [List.mapM_cons] at e
    cases q : asKey d with
    | none => rw [q] at e; cases e
    | some k =>
      cases q2 : ds.mapM asKey with
      | none => rw [q, q2] at e; cases e
      | some ks' =>
        rw [q, q2] at e
        have e' : some (k :: ks') = some ks := e
        cases e'
        rw [key_rep r q, keys_rep rs q2]
        rfl
noncomputable def gLook : D → D → Option (Option D)
  | .dK ks ds, k => (asKey k).map fun k => lookK ks ds k
  | .dT ks ds, k => (asKeys k).map fun k => lookK ks ds k
  | _, _ => none
noncomputable def gDIn (k d : D) : Option D := (gLook d k).map fun o => .bl o.isSome
noncomputable def OD (K : PySem.W.Frag) (H : Hp) : Option D → Option V → Prop
  | some d, some v => Rep K H d v
  | none, none => True
  | _, _ => False
theorem od_of {K : PySem.W.Frag} {H : Hp} {κ : Type} [DecidableEq κ] {kvs : List (κ × V)} {ds : List D} {x : κ} (r : Reps K H ds (kvs.map (·.2))) : OD K H (lookK (kvs.map (·.1)) ds x) (valV kvs x) := by
  obtain ⟨h1, h2⟩ := look_val (x := x) r
  cases w : lookK (kvs.map (·.1)) ds x with
  | none => rw [h2 w]; trivial
  | some d =>
    obtain ⟨v, e, q⟩ := h1 d w
    rw [e]
    exact q
section
variable {X : Cx} {K : PySem.W.Frag} {a b c e : Expr} {f h l : Fe} {pos : Pos}
theorem od_isSome {H : Hp} {o : Option D} {ov : Option V} (h : OD K H o ov) : ov.isSome = o.isSome := by
  cases o <;> cases ov <;> first | rfl | exact h.elim
noncomputable def f3 (g : D → D → D → Option D) (f h l : Fe) : Fe := fun ρ => (f ρ).bind fun x => (h ρ).bind fun y => (l ρ).bind fun z => g x y z
end
end DL
set_option maxHeartbeats 4000000
namespace DL
open PySem PySem.Spec L2
noncomputable def gNewT (i : Nat) : Fs := fun ρ => some (.nx (ρ.set i (some (.ownT [] []))))
noncomputable def putOw (o : Ow) (k d : D) : Option Ow := match o with
  | .dK ks ds => (asKey k).bind fun x => if ks.Nodup ∧ ks.length < sizeLine then some (.dK (putKs ks x) (putDs ks ds x d)) else none
  | .dT ks ds => (asKeys k).bind fun x => if ks.Nodup ∧ ks.length < sizeLine then some (.dT (putKs ks x) (putDs ks ds x d)) else none
  | .lst _ => none
noncomputable def gPut (i : Nat) (fk fv : Fe) : Fs := fun ρ => (fv ρ).bind fun d => (fk ρ).bind fun k => match ρ[i]? with
  | some (some (.ow o)) => (putOw o k d).bind fun o' => some (.nx (ρ.set i (some (.ow o'))))
  | _ => none
noncomputable def fDInOwn (i : Nat) (h : Fe) : Fe := fun ρ => match ρ[i]? with
  | some (some (.ow o)) => (h ρ).bind fun k => gDIn k o.d
  | _ => none
section
variable {X : Cx} {K : PySem.W.Frag} {b c e : Expr} {f h : Fe} {pos : Pos}
theorem ps_newT (i : Nat) {x : Str} {pos' lpos : Pos} (hN : X.N.Nodup) (hi : X.N[i]? = some x := by rfl) (hx : Loc X.env.scope x := by first | exact Or.inl rfl | exact Or.inr rfl) (hs : swapsWith (.Dict [] [] lpos) (some (.Name x pos')) pos.line X.env = pure false := by rfl)
    (hf : X.fn x = true ∨ X.env.scope.names.lookup x = some .local := by first | exact .inl rfl | exact .inr rfl | assumption) : PFS X K (.Assign [.Name x pos'] (.Dict [] [] lpos) pos) (gNewT i) := fun hK => PS.imp (ps_set hN hi hx pe_dnewT hs hf) fun Dn σ H ⟨Hs₀, H₀, ρ, Hs, out, s, ef, k⟩ => by
  cases ef
  exact fun p hp => k _ _ Hs (s.setOw hp (.dT (kvs := []) rfl .nil)) (Same.refl _)
theorem ps_putD (i : Nat) {x : Str} {px pos' : Pos} (hu : X.A.units + 1 < cLine) (hk : PF X K b h) (hv : PF X K e f) (hN : X.N[i]? = some x := by rfl) (hvis : Vis X.env.scope x := by first | exact Or.inl rfl | exact Or.inr (Or.inl rfl) | exact Or.inr (Or.inr rfl)) (hd : (x == ("__debug__" : Str)) = false := by decide)
    (hcd : (x == ("__classdict__" : Str)) = false := by decide) (hs : swapsWith e (some (.Subscript (.Name x px) b pos')) pos.line X.env = pure false := by rfl) :
    PFS X K (.Assign [.Subscript (.Name x px) b pos'] e pos) (gPut i h f) := fun hK => PS.imp (ps_dput hu (pe_var hN hvis hd hcd) (hk hK) (hv hK) hs) fun Dn σ H ⟨Hs₀, H₀, ρ, Hs, out, s, ef, k⟩ => by
  unfold gPut at ef
  obtain ⟨d, e1, ef⟩ := bind1 ef
  obtain ⟨kd, e2, ef⟩ := bind1 ef
  split at ef
  · rename_i o ho
    obtain ⟨o', e3, ef⟩ := bind1 ef
    cases ef
    refine ⟨ρ, Hs, d, s.st, e1, fun v H1 Hs1 g1 r1 => ?_⟩
    obtain ⟨a, hob, ha, hsa, hHa, r⟩ := (s.grow g1).st.owAt ho
    refine ⟨.ref a, ha, ρ, Hs1, kd, (s.grow g1).st, e2, fun y H2 Hs2 g2 r2 => ?_⟩
    have hHa2 := g2.h _ _ hHa
    have s2 := (s.grow g1).grow g2
    have ro := r.mono g2.hs
    have rv := r1.mono g2.hs
    cases ro with
    | lst _ => cases e3
    | @dK kvs ks ds ee rr =>
      obtain ⟨x', e4, e5⟩ := bind1 (show ((asKey kd).bind fun x => if ks.Nodup ∧ ks.length < sizeLine then some (Ow.dK (putKs ks x) (putDs ks ds x d)) else none) = some o' from e3)
      obtain ⟨⟨nd, hz⟩, rfl⟩ := ite_some e5
      subst ee
      have hy := key_rep r2 e4
      subst hy
      refine ⟨a, _, rfl, DPut.k hHa2 (by simpa using hz), ?_⟩
      obtain ⟨q1, q2⟩ := putK_rep (x := x') nd rr rv
      exact k _ _ Hs2 (s2.putOw ho ha (.dK q1 q2)) (g1.hs.trans g2.hs)
    | @dT kvs ks ds ee rr =>
      obtain ⟨x', e4, e5⟩ := bind1 (show ((asKeys kd).bind fun x => if ks.Nodup ∧ ks.length < sizeLine then some (Ow.dT (putKs ks x) (putDs ks ds x d)) else none) = some o' from e3)
      obtain ⟨⟨nd, hz⟩, rfl⟩ := ite_some e5
      subst ee
      cases r2 with
      | @tup bb xs es hb rb =>
        have z' : es.mapM asKey = some x' := e4
        have hx := keys_rep rb z'
        subst hx
        refine ⟨a, _, rfl, DPut.t hHa2 (g2.sub _ _ hb) (by simpa using hz), ?_⟩
        obtain ⟨q1, q2⟩ := putK_rep (x := x') nd rr rv
        exact k _ _ Hs2 (s2.putOw ho ha (.dT q1 q2)) (g1.hs.trans g2.hs)
      | _ => cases e4
  · cases ef
noncomputable def gPutL (i : Nat) (fk fv : Fe) : Fs := fun ρ => (fv ρ).bind fun d => (fk ρ).bind fun k => match ρ[i]?, k with
  | some (some (.ow (.lst ds))), .int j => (ixN ds.length j).bind fun n => some (.nx (ρ.set i (some (.own (ds.set n d)))))
  | _, _ => none
theorem ps_putL (i : Nat) {x : Str} {px pos' : Pos} (hk : PF X K b h) (hv : PF X K e f) (hN : X.N[i]? = some x := by rfl) (hvis : Vis X.env.scope x := by first | exact Or.inl rfl | exact Or.inr (Or.inl rfl) | exact Or.inr (Or.inr rfl)) (hd : (x == ("__debug__" : Str)) = false := by decide)
    (hcd : (x == ("__classdict__" : Str)) = false := by decide)
    (hs : swapsWithSole [.Subscript (.Name x px) b pos'] e pos.line X.env = pure false := by rfl) (hw : swappedStores [.Subscript (.Name x px) b pos'] e X.env = pure none := by rfl)
    (h1 : (assignEach [.Subscript (.Name x px) b pos'] X.env).map (·.2) = [assign (.Subscript (.Name x px) b pos') X.env] := by rfl)
    (ha : ∀ v, assign (.Subscript (.Name x px) b pos') X.env v = (do
      let ov ← holding [v] (eval (.Name x px) X.env)
      let iv ← holding [v, ov] (eval b X.env)
      standAt pos'
      holding [v, ov, iv] (setItem ov iv v)
      release [v, ov, iv] []) := by intro _; rfl) :
    PFS X K (.Assign [.Subscript (.Name x px) b pos'] e pos) (gPutL i h f) := fun hK => PS.imp (ps_asg (hv hK) (pg_sub (pe_var hN hvis hd hcd) (hk hK) set_list ha) hs hw h1) fun Dn σ H ⟨Hs₀, H₀, ρ, Hs, out, s, ef, k⟩ => by
  unfold gPutL at ef
  obtain ⟨d, e1, ef⟩ := bind1 ef
  obtain ⟨kd, e2, ef⟩ := bind1 ef
  split at ef
  · rename_i ds j ho
    obtain ⟨n, e3, ef⟩ := bind1 ef
    cases ef
    refine ⟨ρ, Hs, d, s.st, e1, fun v H1 Hs1 g1 r1 => ?_⟩
    obtain ⟨a, xs, ha, hsa, hHa, r⟩ := (s.grow g1).st.ownAt ho
    refine ⟨.ref a, ha, ρ, Hs1, _, (s.grow g1).st, e2, fun y H2 Hs2 g2 r2 => ?_⟩
    cases r2
    have s2 := (s.grow g1).grow g2
    refine ⟨a, xs, j, n, rfl, rfl, g2.h _ _ hHa, by rw [← r.length]; exact e3, ?_⟩
    exact k _ _ Hs2 (s2.putOwn ho ha (Reps.set (r1.mono g2.hs) n (r.mono g2.hs))) (g1.hs.trans g2.hs)
  · cases ef
theorem ow_get {Hs H : Hp} {o : Ow} {ho : HO} {a : Addr} {kd : D} {y : V} {ov : Option D} (s : Same Hs H) (hn : Hs a = none) (hH : H a = some ho) (r : OwRep K Hs o ho) (q : Rep K Hs kd y) (e : gLook o.d kd = some ov) : ∃ w, DGet H a y w ∧ OD K Hs ov w := by
  have hs : Same Hs (upd Hs a ho) := sm_upd hn
  have sub : Same (upd Hs a ho) H := fun b u e => by
    by_cases hb : b = a
    · subst hb; rw [upd_same] at e; cases e; exact hH
    · rw [upd_ne hb] at e; exact s b u e
  cases r with
  | lst _ => cases e
  | @dK kvs ks ds ee rr =>
    have e' : (asKey kd).map (fun k => lookK ks ds k) = some ov := e
    cases z : asKey kd with
    | none => rw [z] at e'; cases e'
    | some kk =>
      rw [z] at e'
      cases e'
      subst ee
      have hy := key_rep q z
      subst hy
      exact ⟨valV kvs kk, DGet.k hH, od_of rr⟩
  | @dT kvs ks ds ee rr =>
    have e' : (asKeys kd).map (fun k => lookK ks ds k) = some ov := e
    cases z : asKeys kd with
    | none => rw [z] at e'; cases e'
    | some kk =>
      rw [z] at e'
      cases e'
      subst ee
      cases q with
      | @tup b xs es hb rb =>
        have z' : es.mapM asKey = some kk := z
        have hx := keys_rep rb z'
        subst hx
        exact ⟨valV kvs kk, DGet.t hH (s _ _ hb), od_of rr⟩
      | _ => cases z
theorem pt_dinOwn (i : Nat) {x : Str} {px : Pos} (hu : X.A.units + 1 < cLine) (hb : PF X K b h) (hN : X.N[i]? = some x := by rfl) (hv : Vis X.env.scope x := by first | exact Or.inl rfl | exact Or.inr (Or.inl rfl) | exact Or.inr (Or.inr rfl)) (hd : (x == ("__debug__" : Str)) = false := by decide)
    (hcd : (x == ("__classdict__" : Str)) = false := by decide) (hm : behindInMarks .In (.Name x px) = false := by first | exact nomark _ | rfl) : PFT X K (.Compare b [.In] [.Name x px] pos) (bTest (fDInOwn i h)) := fun hK => PT.imp (pt_cmp (pc_din hu (hb hK) (pe_var hN hv hd hcd)) hm) fun σ H Q ⟨ρ, Hs, d, st, ef, k⟩ => by
  unfold bTest at ef
  split at ef
  · rename_i d' q0
    cases ef
    unfold fDInOwn at q0
    split at q0
    · rename_i o ho
      obtain ⟨kd, e1, e2⟩ := bind1 q0
      refine ⟨ρ, Hs, kd, st, e1, fun y H1 Hs1 g1 r1 => ?_⟩
      obtain ⟨a, hob, ha, hsa, hHa, r⟩ := (st.grow g1).owAt ho
      unfold gDIn at e2
      cases q : gLook o.d kd with
      | none => rw [q] at e2; cases e2
      | some ov =>
        rw [q] at e2
        cases e2
        obtain ⟨w, h1, h2⟩ := ow_get g1.sub hsa hHa r r1 q
        refine ⟨.ref a, ha, a, w, rfl, h1, ?_⟩
        rw [od_isSome h2]
        exact ⟨_, rfl, k H1 Hs1 g1⟩
    · cases q0
  · cases ef
end
end DL
set_option maxHeartbeats 4000000
namespace DL
open PySem PySem.Spec L2
noncomputable def eqS : D → D → Option Bool
  | .int i, .int j => some (i == j)
  | .bl a, .bl b => some (a == b)
  | .str x, .str y => some (x == y)
  | .non, .non => some true
  | .non, .int _ => some false
  | .int _, .non => some false
  | .non, .bl _ => some false
  | .bl _, .non => some false
  | _, _ => none
noncomputable def gEqS (x y : D) : Option D := (eqS x y).map D.bl
noncomputable def rEqS (K : PySem.W.Frag) (neg : Bool) : R2 := fun x y H Q => ∃ Hs d e b, Same Hs H ∧ Rep K Hs d x ∧ Rep K Hs e y ∧ eqS d e = some b ∧ Q (.bl (if neg then !b else b)) H
section
variable {X : Cx} {K : PySem.W.Frag}
theorem o_eqS : OpR X (compareOp .Eq) (rEqS X.K false) := by
  intro pins s σ H x y v u Q I rx ry h
  obtain ⟨Hs, d, e, b, sm, rd, re, eb, q⟩ := h
  have fin : Q (.bl b) H := q
  cases rd with
  | int i =>
    obtain ⟨t, rfl⟩ := rx
    cases re with
    | int j => cases eb; obtain ⟨t', rfl⟩ := ry; exact PyProof.Rows.eq_int ⟨.bl _, H, I, rfl, fin⟩
    | non => cases eb; cases ry; exact PySem.EqNone.eq_int_none ⟨.bl _, H, I, rfl, fin⟩
    | _ => cases eb
  | bl a =>
    cases rx
    cases re with
    | bl c => cases eb; cases ry; exact PyProof.Rows.eq_bool ⟨.bl _, H, I, rfl, fin⟩
    | non => cases eb; cases ry; exact PySem.EqNone.eq_bool_none ⟨.bl _, H, I, rfl, fin⟩
    | _ => cases eb
  | str x =>
    obtain ⟨t, rfl⟩ := rx
    cases re with
    | str y => cases eb; obtain ⟨t', rfl⟩ := ry; exact PyProof.Rows.eq_str ⟨.bl _, H, I, rfl, fin⟩
    | _ => cases eb
  | non =>
    cases rx
    cases re with
    | non => cases eb; cases ry; exact PySem.EqNone.eq_none_none ⟨.bl _, H, I, rfl, fin⟩
    | int j => cases eb; obtain ⟨t', rfl⟩ := ry; exact PySem.EqNone.eq_none_int ⟨.bl _, H, I, rfl, fin⟩
    | bl c => cases eb; cases ry; exact PySem.EqNone.eq_none_bool ⟨.bl _, H, I, rfl, fin⟩
    | _ => cases eb
  | _ => cases eb
theorem a_eqS : Op2 K (rEqS K false) gEqS := by
  intro Hs H x y z u v Q s rx ry e q
  unfold gEqS at e
  cases h : eqS x y with
  | none => rw [h] at e; cases e
  | some b => rw [h] at e; cases e; exact ⟨Hs, x, y, b, s, rx, ry, h, q _ H Hs (Grow.refl s) (.bl _)⟩
end
noncomputable def fSlT (f : Fe) (lo hi : Fo) : Fe := fun ρ => match f ρ, lo ρ, hi ρ with
  | some (.tup xs), some l, some u => if HT.sIx xs.length 0 l = 0 ∧ HT.sIx xs.length xs.length u = xs.length then none else some (.tup (cutD xs l u))
  | _, _, _ => none
section
variable {X : Cx} {K : PySem.W.Frag} {a e : Expr} {f : Fe} {pos : Pos}
theorem pf_sliceT {lo hi : Option Expr} {fl fh : Fo} {p2 : Pos} (ha : PF X K a f) (hl : PFO X K lo fl) (hh : PFO X K hi fh) : PF X K (.Subscript a (.Slice lo hi none p2) pos) (fSlT f fl fh) := fun hK => PE.imp (pe_slice sl_tup (ha hK) (hl hK) (hh hK)) fun σ H Q ⟨ρ, Hs, d, st, ef, k⟩ => by
  unfold fSlT at ef
  split at ef
  · rename_i xs l u q1 q2 q3
    split at ef
    · cases ef
    · rename_i hw
      cases ef
      refine ⟨ρ, Hs, _, st, q1, fun v H1 Hs1 g1 r1 => ⟨ρ, Hs1, l, st.grow g1, q2, fun H2 Hs2 g2 => ⟨ρ, Hs2, u, (st.grow g1).grow g2, q3, fun H3 Hs3 g3 => ?_⟩⟩⟩
      cases r1 with
      | @tup a vs _ h1 r1 =>
        have hh := g3.sub _ _ (g3.hs _ _ (g2.hs _ _ h1))
        refine ⟨a, vs, rfl, SqT.of hh, by rw [← r1.length]; exact hw, fun p hp => ?_⟩
        have ga := Grow.alloc (o := .tup (cutV vs l u)) g3.sub hp
        exact k _ _ _ (((g1.trans g2).trans g3).trans ga) (.tup upd_same ((cut_rep l u ((r1.mono g2.hs).mono g3.hs)).mono ga.hs))
  · cases ef
end
noncomputable def setAll : List Nat → List D → Rho → Option Rho
  | [], [], ρ => some ρ
  | i :: is, d :: ds, ρ => setAll is ds (ρ.set i (some (.val d)))
  | _, _, _ => none
noncomputable def tMany (is : List Nat) : Ft := fun d ρ => match d with
  | .tup ds => setAll is ds ρ
  | _ => none
section
variable {X : Cx} {K : PySem.W.Frag} {c : Expr} {body : List Stmt} {t : Rho → Option Bool} {g : Fs} {pos : Pos}
end
end DL
set_option maxHeartbeats 4000000
namespace DL
open PySem PySem.Spec L2
section
variable {X : Cx} {K : PySem.W.Frag} {e : Expr} {f : Fe} {pos : Pos}
noncomputable def fLenOwn (i : Nat) : Fe := fun ρ => match ρ[i]? with
  | some (some (.ow (.lst ds))) => some (.int ds.length)
  | _ => none
theorem pf_lenOwn (i : Nat) {x : Str} {px p : Pos} (hg : Gl X "len") (hm : X.mg "len" = none) (hN : X.N[i]? = some x := by rfl) (hv : Vis X.env.scope x := by first | exact Or.inl rfl | exact Or.inr (Or.inl rfl) | exact Or.inr (Or.inr rfl)) (hd : (x == ("__debug__" : Str)) = false := by decide)
    (hcd : (x == ("__classdict__" : Str)) = false := by decide) (hst : starEach [.Name x px] X.env = (false, eval (.Name x px) X.env) :: starEach [] X.env := by rfl) : PF X K (.Call (.Name "len" p) [.Name x px] [] pos) (fLenOwn i) := fun hK => PE.imp (pe_callB call_len_seq hg hm PySem.boot_len (pa_cons (pe_var hN hv hd hcd) pa_nil hst) (by decide) (by decide) hst rfl) fun σ H Q ⟨ρ, Hs, d, st, ef, k⟩ => by
  unfold fLenOwn at ef
  split at ef
  · rename_i ds ho
    cases ef
    obtain ⟨a, xs, ha, hsa, hHa, r⟩ := st.ownAt ho
    refine ⟨.ref a, ha, a, xs, rfl, .inl (SqL.of hHa), ?_⟩
    rw [← r.length]
    exact k _ H Hs (Grow.refl st.sub) (.int _)
  · cases ef
end
end DL
set_option maxHeartbeats 4000000
namespace DL
open PySem PySem.Spec L2
section
variable {X : Cx} {K : PySem.W.Frag} {e tg : Expr} {f : Fe} {ft : Ft} {pos : Pos}
theorem pg_threeF (i j l : Nat) {x y z : Str} {px py pz : Pos} {kt : Nat} (hc : X.calm = true) (hN : X.N.Nodup) (hi : X.N[i]? = some x := by rfl) (hj : X.N[j]? = some y := by rfl) (hl : X.N[l]? = some z := by rfl)
    (hx : Loc X.env.scope x := by first | exact Or.inl rfl | exact Or.inr rfl) (hy : Loc X.env.scope y := by first | exact Or.inl rfl | exact Or.inr rfl) (hz : Loc X.env.scope z := by first | exact Or.inl rfl | exact Or.inr rfl)
    (hf : X.fn x = true ∨ X.env.scope.names.lookup x = some .local := by first | exact .inl rfl | exact .inr rfl | assumption) (hf2 : X.fn y = true ∨ X.env.scope.names.lookup y = some .local := by first | exact .inl rfl | exact .inr rfl | assumption) (hf3 : X.fn z = true ∨ X.env.scope.names.lookup z = some .local := by first | exact .inl rfl | exact .inr rfl | assumption)
    (hn : (assignEach [Expr.Name x px, Expr.Name y py, Expr.Name z pz] X.env).length = 3 := by rfl) (hst : (assignEach [Expr.Name x px, Expr.Name y py, Expr.Name z pz] X.env).findIdx? (·.1) = none := by rfl)
    (h1 : (assignEach [Expr.Name x px, Expr.Name y py, Expr.Name z pz] X.env).map (·.2) = assign (Expr.Name x px) X.env :: (assignEach [Expr.Name y py, Expr.Name z pz] X.env).map (·.2) := by rfl)
    (h2 : (assignEach [Expr.Name y py, Expr.Name z pz] X.env).map (·.2) = assign (Expr.Name y py) X.env :: (assignEach [Expr.Name z pz] X.env).map (·.2) := by rfl)
    (h3 : (assignEach [Expr.Name z pz] X.env).map (·.2) = assign (Expr.Name z pz) X.env :: (assignEach [] X.env).map (·.2) := by rfl) :
    PFG X K (.Tuple [.Name x px, .Name y py, .Name z pz] kt pos) (tMany [i, j, l]) := fun hK => by
  subst hK
  refine PG.imp (pg_tup hc (pgs_cons (pg_name hN hi hx hf) (pgs_cons (pg_name hN hj hy hf2) (pgs_cons (pg_name hN hl hz hf3) pgs_nil h3) h2) h1) hn hst) fun v σ H Q ⟨ρ, Hs, d, ρ', st, r, ef, k⟩ => ?_
  unfold tMany at ef
  split at ef
  · rename_i ds
    cases r with
    | @tup a xs _ h r =>
      cases r with
      | nil => cases ef
      | @cons d1 v1 ds vs r1 r =>
      cases r with
      | nil => cases ef
      | @cons d2 v2 ds vs r2 r =>
      cases r with
      | nil => cases ef
      | @cons d3 v3 ds vs r3 r =>
      cases r with
      | cons _ _ => cases ef
      | nil =>
        cases ef
        refine ⟨a, _, rfl, SqT.of (st.sub _ _ h), rfl, _, _, rfl, _, _, rfl, _, _, rfl, rfl, ?_⟩
        exact k _ H Hs (Grow.refl st.sub) (((st.set (s := .val d1) r1).set (s := .val d2) r2).set (s := .val d3) r3) (fun _ _ s => ((s.set r1).set r2).set r3) ((OwnKept.set.trans OwnKept.set).trans OwnKept.set)
  · cases ef
end
end DL
set_option maxHeartbeats 4000000
namespace L2
open PySem PySem.Spec PyProof.Rows
section
variable {X : Cx} {k : Nat} {f C : Addr} {fd : FuncData} {ps : List Str} {sp : Sp} {E1 : XK}
variable {x cn rn n : Str} {p pos' cpos pos1 np hpos pos : Pos} {e : Expr} {es : List Expr} {t : TA} {b₀ : Stmt} {suite : List Stmt} {ts : TS} {cR : Value} {i j : Nat}
end
end L2
namespace DL
open PySem PySem.Spec L2 PyProof.Rows
section
variable {X : Cx} {K : PySem.W.Frag} {k : Nat} {x : Str} {C : Addr} {p pos : Pos} {e : Expr} {es : List Expr} {as : Rho → Option (List D)} {ps ns : List Str} {FM : List D → Option (List D ⊕ Addr)}
end
noncomputable def runA (n : Nat) (N : List Str) (g : Fs) : List D → Option D := fun ds => if ds.length = n then runD g (startR N ds) else none
theorem runA_eq {n : Nat} {N : List Str} {g : Fs} {ds : List D} (h : ds.length = n := by rfl) : runA n N g ds = runD g (startR N ds) := if_pos h
theorem runA_len {n : Nat} {N : List Str} {g : Fs} {ds : List D} {d : D} (h : runA n N g ds = some d) : ds.length = n := by
  unfold runA at h
  split at h
  · assumption
  · cases h
theorem runA_run {n : Nat} {N : List Str} {g : Fs} {ds : List D} {d : D} (h : runA n N g ds = some d) : runD g (startR N ds) = some d := by
  have := runA_len h
  rwa [runA_eq this] at h
noncomputable def runAX (n : Nat) (N : List Str) (g : Fx) : List D → Option Rx := fun ds => if ds.length = n then runX g (startR N ds) else none
theorem runAX_eq {n : Nat} {N : List Str} {g : Fx} {ds : List D} (h : ds.length = n := by rfl) : runAX n N g ds = runX g (startR N ds) := if_pos h
theorem runAX_len {n : Nat} {N : List Str} {g : Fx} {ds : List D} {d : Rx} (h : runAX n N g ds = some d) : ds.length = n := by
  unfold runAX at h
  split at h
  · assumption
  · cases h
theorem runAX_run {n : Nat} {N : List Str} {g : Fx} {ds : List D} {d : Rx} (h : runAX n N g ds = some d) : runX g (startR N ds) = some d := by
  have := runAX_len h
  rwa [runAX_eq this] at h
section
variable {P : Program} {w : World} {K : PySem.W.Frag} {mg : Str → Option Value} {base : Heap}
theorem df_A {x : Str} {st : Stmt} {f : Addr} {fd : FuncData} {N ps : List Str} {k : Nat} {g : Fs} (hm : mg x = some (.ref f)) (U : Fun K x x st f fd) (hb : Binds K fd ps []) (S : FnScope N ps (defScope st))
    (hbody : ∀ (cdv : Value) (A : Around) (outer : List Env) (s : Shared) (H : Hp) (E : XK), Room k (A.deeper (PyProof.Rows.envOfC x (defScope st) s.heap.objs.size f cdv)) →
      PFSs (cxOf CX0 P w K mg base N x (defScope st) f cdv A outer s H E).nox K (defBody st) g) : Df P w K mg base (k + 1) x ps (runA ps.length N g) :=
  df_F hm U hb S (fun ds d h => runA_len h) hbody fun ds d h => runA_run h
end
end DL
set_option maxHeartbeats 4000000
namespace CR
open PySem PySem.Spec L2 DL
noncomputable def cellN (ns : List Int) (k : Int) : Int := if ns.length = 0 then 0 else ns.getD (k % ns.length).toNat 0
noncomputable def mixN (ns : List Int) (k : Int) : Int :=
  let a := (cellN ns k + 104729 * (k + 1)) % 4294967291
  let b := a * 48271 % 4294967279
  (b / 64 * 69621 + b) % 4294967231
noncomputable def F_Lcell : List D → Option D
  | [.scr ns, .int k] => some (.int (cellN ns k))
  | _ => none
noncomputable def F_Lmix : List D → Option D
  | [.scr ns, .int k] => some (.int (mixN ns k))
  | _ => none
section
variable {g h : Fs} {ρ ρ' : Rho} {d : D}
theorem gSeq_nx (e : g ρ = some (.nx ρ')) : gSeq g h ρ = h ρ' := by unfold gSeq; rw [e]; rfl
theorem gSeq_rt (e : g ρ = some (.rt d)) : gSeq g h ρ = some (.rt d) := by unfold gSeq; rw [e]; rfl
theorem run_rt (e : g ρ = some (.rt d)) : runD g ρ = some d := by unfold runD; rw [e]
theorem gFor_eq {fi : Fi} {ft : Ft} {ds : List D} (e : fi ρ = some ds) : gFor fi ft g ρ = loopD ft g ds ρ := by unfold gFor; rw [e]; rfl
theorem gIf_t {t : Rho → Option Bool} (e : t ρ = some true) : gIf t g h ρ = g ρ := by unfold gIf; rw [e]; rfl
theorem gIf_f {t : Rho → Option Bool} (e : t ρ = some false) : gIf t g h ρ = h ρ := by unfold gIf; rw [e]; rfl
theorem gRet_eq {f : Fe} (e : f ρ = some d) : gRet f ρ = some (.rt d) := by unfold gRet; rw [e]; rfl
theorem gSet_eq {f : Fe} {i : Nat} (e : f ρ = some d) : gSet i f ρ = some (.nx (ρ.set i (some (.val d)))) := by unfold gSet; rw [e]; rfl
theorem gApp_eq {f : Fe} {i : Nat} {ds : List D} (e : f ρ = some d) (ho : ρ[i]? = some (some (.own ds))) (hz : ds.length < sizeLine) : gApp i f ρ = some (.nx (ρ.set i (some (.own (ds ++ [d]))))) := by
  unfold gApp
  rw [e]
  show (match ρ[i]? with
    | some (some (.ow (.lst ds))) => if ds.length < sizeLine then some (Out.nx (ρ.set i (some (Sl.own (ds ++ [d]))))) else none
    | _ => none) = _
  rw [ho]
  exact if_pos hz
theorem fA_eq {F : List D → Option D} {a : Rho → Option (List D)} {ds : List D} (e : a ρ = some ds) : fA F a ρ = F ds := by unfold fA; rw [e]; rfl
theorem f1_eq {G : D → Option D} {f : Fe} {x : D} (e : f ρ = some x) : f1 G f ρ = G x := by unfold f1; rw [e]; rfl
theorem f2_eq {G : D → D → Option D} {f k : Fe} {x y : D} (e : f ρ = some x) (e2 : k ρ = some y) : f2 G f k ρ = G x y := by unfold f2; rw [e, e2]; rfl
theorem aCons_eq {f : Fe} {a : Rho → Option (List D)} {x : D} {xs : List D} (e : f ρ = some x) (e2 : a ρ = some xs) : aCons f a ρ = some (x :: xs) := by unfold aCons; rw [e, e2]; rfl
theorem bTest_eq {f : Fe} {b : Bool} (e : f ρ = some (.bl b)) : bTest f ρ = some b := by unfold bTest; rw [e]
theorem bOr_t {t u : Rho → Option Bool} (e : t ρ = some true) : bOr t u ρ = some true := by unfold bOr; rw [e]; rfl
theorem bOr_f {t u : Rho → Option Bool} {b : Bool} (e : t ρ = some false) (e2 : u ρ = some b) : bOr t u ρ = some b := by unfold bOr; rw [e]; exact e2
theorem bAnd_f {t u : Rho → Option Bool} (e : t ρ = some false) : bAnd t u ρ = some false := by unfold bAnd; rw [e]; rfl
theorem bAnd_t {t u : Rho → Option Bool} {b : Bool} (e : t ρ = some true) (e2 : u ρ = some b) : bAnd t u ρ = some b := by unfold bAnd; rw [e]; exact e2
theorem bNot_eq {t : Rho → Option Bool} {b : Bool} (e : t ρ = some b) : bNot t ρ = some (!b) := by unfold bNot; rw [e]; rfl
theorem bTru_eq {f : Fe} {x : D} (e : f ρ = some x) : bTru f ρ = truD x := by unfold bTru; rw [e]; rfl
theorem fIf_t {t : Rho → Option Bool} {f k : Fe} (e : t ρ = some true) : fIf t f k ρ = f ρ := by unfold fIf; rw [e]; rfl
theorem fComp_eq {n : Nat} {fr : List (Str × Nat)} {fi : Fi} {ft : Ft} {t : Rho → Option Bool} {f : Fe} {ds ys : List D} (e : fi ρ = some ds) (hz : ds.length ≤ sizeLine) (e2 : compD n ft t f ds (rhoIn n fr ρ) = some ys) : fComp n fr fi ft t f ρ = some (.lst ys) := by
  unfold fComp
  rw [e]
  show (if ds.length ≤ sizeLine then (compD n ft t f ds (rhoIn n fr ρ)).bind fun ys => some (D.lst ys) else none) = _
  rw [if_pos hz, e2]
  rfl
theorem iLst_eq {f : Fe} {ds : List D} (e : f ρ = some (.lst ds)) : iLst f ρ = some ds := by unfold iLst; rw [e]
theorem iRng_eq {f : Fe} {j : Int} (e : f ρ = some (.int j)) (h1 : -(2 ^ 62) ≤ j) (h2 : j < 2 ^ 62) : iRng f ρ = some ((List.range j.toNat).map fun (k : Nat) => D.int (k : Int)) := by
  unfold iRng
  rw [e]
  exact if_pos ⟨h1, h2⟩
end
theorem compD_typed {α β : Type} {n : Nat} {ft : Ft} {f : Fe} {ρ : Rho} (enc : α → D) (enb : β → D) (φ : α → β) (sub : α → Rho) : ∀ (xs : List α), (∀ x ∈ xs, ft (enc x) ρ = some (sub x) ∧ f (sub x) = some (enb (φ x)) ∧ reset n (sub x) = ρ) →
    compD n ft bTrue f (xs.map enc) ρ = some ((xs.map φ).map enb)
  | [], _ => rfl
  | x :: xs, h => by
    obtain ⟨h1, h2, h3⟩ := h x List.mem_cons_self
    have ih := compD_typed enc enb φ sub xs fun y hy => h y (List.mem_cons_of_mem _ hy)
    show ((ft (enc x) ρ).bind fun ρ1 => (bTrue ρ1).bind fun b => if b then (f ρ1).bind fun y => (compD n ft bTrue f (xs.map enc) (reset n ρ1)).bind fun ys => some (y :: ys) else compD n ft bTrue f (xs.map enc) (reset n ρ1)) = _
    rw [h1]
    show ((f (sub x)).bind fun y => (compD n ft bTrue f (xs.map enc) (reset n (sub x))).bind fun ys => some (y :: ys)) = _
    rw [h2, h3, ih]
    rfl
noncomputable def g_Lcell : Fs :=
  (gSeq (gIf (bTru (fVar 0)) (gRet (f2 gIx (fVar 0) (f2 gMod (fVar 1) (fA gLen (aCons (fVar 0) aNil))))) gNext) (gRet (fC (.int 0))))
noncomputable abbrev N_Lcell : List Str := ["_law_script", "_law_k"]
noncomputable def g_Lmix : Fs :=
  (gSeq (gSet 2 (f2 gMod (f2 gAdd (fA F_Lcell (aCons (fVar 0) (aCons (fVar 1) aNil))) (f2 gMul (fC (.int 104729)) (f2 gAdd (fVar 1) (fC (.int 1))))) (fC (.int 4294967291)))) (gSeq (gSet 2 (f2 gMod (f2 gMul (fVar 2) (fC (.int 48271))) (fC (.int 4294967279)))) (gRet (f2 gMod (f2 gAdd (f2 gMul (f2 gFdiv (fVar 2) (fC (.int 64))) (fC (.int 69621))) (fVar 2)) (fC (.int 4294967231))))))
noncomputable abbrev N_Lmix : List Str := ["_law_script", "_law_k", "_law_number"]
theorem m_Lcell {ds : List D} {d : D} (h : F_Lcell ds = some d) : runD g_Lcell (startR N_Lcell ds) = some d := by
  unfold F_Lcell at h
  split at h
  · rename_i ns k
    cases h
    refine run_rt ?_
    unfold g_Lcell cellN
    cases ns with
    | nil => rfl
    | cons n ns =>
      have hl : (0 : Int) < (n :: ns).length := by simp only [List.length_cons]; lia
      rw [gSeq_rt (d := .int ((n :: ns).getD (k % (n :: ns).length).toNat 0)), if_neg (by simp)]
      refine (gIf_t (by rfl)).trans (gRet_eq ?_)
      have e1 : f2 gMod (fVar 1) (fA gLen (aCons (fVar 0) aNil)) (startR N_Lcell [.scr (n :: ns), .int k]) = some (.int (k % (n :: ns).length)) := by
        show (if (0 : Int) < ((n :: ns).length : Int) then some (D.int (k % ((n :: ns).length : Int))) else none) = _
        rw [if_pos hl]
      refine (f2_eq rfl e1).trans ?_
      have h0 := Int.emod_nonneg k (b := ((n :: ns).length : Int)) (by lia)
      have h1 := Int.emod_lt_of_pos k hl
      show (atI (n :: ns) (k % ((n :: ns).length : Int))).map D.int = _
      have e2 : (n :: ns)[(k % ((n :: ns).length : Int)).toNat]? = some ((n :: ns).getD (k % (n :: ns).length).toNat 0) := by
        rw [List.getD_eq_getElem?_getD]
        have hlt : (k % ((n :: ns).length : Int)).toNat < (n :: ns).length := by lia
        rw [List.getElem?_eq_getElem hlt]
        rfl
      have e3 : atI (n :: ns) (k % ((n :: ns).length : Int)) = some ((n :: ns).getD (k % (n :: ns).length).toNat 0) := by
        have := atI_nat e2
        rwa [Int.toNat_of_nonneg h0] at this
      rw [e3]
      rfl
  · cases h
theorem gMul_r {i j : Int} (h : -(2 ^ 64) < j ∧ j < 2 ^ 64) : gMul (.int i) (.int j) = some (.int (i * j)) := if_pos (.inr h)
theorem m_Lmix {ds : List D} {d : D} (h : F_Lmix ds = some d) : runD g_Lmix (startR N_Lmix ds) = some d := by
  unfold F_Lmix at h
  split at h
  · rename_i ns k
    cases h
    refine run_rt ?_
    unfold g_Lmix mixN
    generalize ha : (cellN ns k + 104729 * (k + 1)) % 4294967291 = a
    dsimp only
    generalize hb : a * 48271 % 4294967279 = b
    rw [gSeq_nx (ρ' := [some (.val (.scr ns)), some (.val (.int k)), some (.val (.int a))]) (by rw [← ha]; rfl)]
    rw [gSeq_nx (ρ' := [some (.val (.scr ns)), some (.val (.int k)), some (.val (.int b))]) ((gSet_eq (d := .int b) ((f2_eq (x := .int (a * 48271)) ((f2_eq rfl rfl).trans (gMul_r (by decide))) rfl).trans (by rw [← hb]; rfl))).trans rfl)]
    refine gRet_eq ((f2_eq (x := .int (b / 64 * 69621 + b)) ((f2_eq (x := .int (b / 64 * 69621)) ((f2_eq (x := .int (b / 64)) rfl rfl).trans (gMul_r (by decide))) rfl).trans rfl) rfl).trans rfl)
  · cases h
section
variable {g h : Fx} {gs : Fs} {ρ ρ' : Rho} {d : D} {C : Addr} {o : Out}
theorem xSeq_nx (e : g ρ = some (.ok (.nx ρ'))) : xSeq g h ρ = h ρ' := by unfold xSeq; rw [e]; rfl
theorem xSeq_xr (e : g ρ = some (.xr C)) : xSeq g h ρ = some (.xr C) := by unfold xSeq; rw [e]; rfl
theorem xOk_eq (e : gs ρ = some o) : xOk gs ρ = some (.ok o) := by unfold xOk; rw [e]; rfl
theorem xIf_t {t : Rho → Option Bool} (e : t ρ = some true) : xIf t g h ρ = g ρ := by unfold xIf; rw [e]; rfl
theorem xIf_f {t : Rho → Option Bool} (e : t ρ = some false) : xIf t g h ρ = h ρ := by unfold xIf; rw [e]; rfl
theorem xFor_eq {fi : Fi} {ft : Ft} {ds : List D} (e : fi ρ = some ds) : xFor fi ft g ρ = loopX ft g ds ρ := by unfold xFor; rw [e]; rfl
theorem runX_nx (e : g ρ = some (.ok (.nx ρ'))) : runX g ρ = some (.val .non) := by unfold runX; rw [e]
theorem runX_xr (e : g ρ = some (.xr C)) : runX g ρ = some (.xr C) := by unfold runX; rw [e]
theorem jLit_eq {fj : Fj} {l n : Nat} (e : fj ρ = some n) : jLit l fj ρ = some (l + n) := by unfold jLit; rw [e]; rfl
theorem jInt_eq {fj : Fj} {f : Fe} {i : Int} {n : Nat} (e1 : f ρ = some (.int i)) (h1 : -(2 ^ 62) ≤ i) (h2 : i < 2 ^ 62) (e : fj ρ = some n) : jInt f fj ρ = some (70 + n) := by
  unfold jInt
  rw [e1, e]
  exact if_pos ⟨h1, h2⟩
theorem xRaise_eq {fj : Fj} {n : Nat} (e : fj ρ = some n) (h : n ≤ 100000) : xRaise C fj ρ = some (.xr C) := by
  unfold xRaise
  rw [e]
  exact if_pos (Nat.le_trans h (by decide))
end
end CR
set_option maxHeartbeats 4000000
namespace L2
open PySem PySem.Spec PyProof.Rows
noncomputable def ItrD (lo : Int) (n : Nat) : It := ⟨fun i _ => i < n, fun i H x H' => H' = H ∧ x = .int (lo + (i : Int) * (-1)), fun i _ => n ≤ i⟩
theorem turn_rangeD {P : Program} {w : World} {K : PySem.W.Frag} {tg : Expr} (it : Addr) (lo : Int) (n : Nat) : Turn P w K tg (ItrD lo n) [it] it (fun i h => IsRangeIter h it (lo + (i : Nat) * (-1)) ((n : Int) - (i : Nat)) (-1)) where
  mem := by simp
  obj := fun i h st b hb => by
    have e : b = it := by simpa using hb
    subst e
    exact ⟨_, st, fun v z => by
      have z' : Data.fields _ = Data.cell v := z
      cases z'⟩
  keep := fun i h h' st k => k it (by simp) _ st
  item := by
    intro X hP hw hK hc i pins s σ H E I hf st hg
    subst hP hw hK
    obtain ⟨f0, f1, f2, f3, f4, f5⟩ := hf it (by simp)
    have W := Walks.range (prog := X.prog) (w := X.w) (I.ok.hd hc) it lo (-1) n
    refine W.item i s _ _ hg st fun v h' tk hv st' kk => ?_
    obtain ⟨t, rfl⟩ := hv
    have I1 : Inv X pins σ H { s with heap := h', toks := tk } := I.turned (fun b o hb e => kk b o (by simpa using hb) e) f0 f1 f3 f4 f5
    exact ⟨_, rfl, go_of (s := { s with heap := h', toks := tk }) (n := "range_iterator") st' rfl rfl (by decide) ⟨.int (lo + (i : Int) * (-1)), H, I1, ⟨t, rfl⟩, ⟨rfl, rfl⟩, st', fun b hb => (hf b hb).1⟩⟩
  done := by
    intro X hP hw hK hc i pins s σ H E I hf st hg
    subst hP hw hK
    obtain ⟨f0, f1, f2, f3, f4, f5⟩ := hf it (by simp)
    exact wpAny_pyNext_range_end (I.ok.hd hc) st (by have : n ≤ i := hg; omega) fun h' eb => ⟨rfl, I.turned (t' := s.toks) (fun b o hb e => eb b o hb e) f0 f1 f3 f4 f5⟩
  self := fun _ _ _ _ _ st h => wpAny_pyIter_rangeiter st h
noncomputable def Its (x : Str) : It := ⟨fun i _ => i < x.cps.size, fun i H v H' => H' = H ∧ ∃ c, x.cps[i]? = some c ∧ v = .str ⟨#[c]⟩, fun i _ => x.cps.size ≤ i⟩
theorem turn_strAscii {P : Program} {w : World} {K : PySem.W.Frag} {tg : Expr} (z : Str) (t : Tok) (it : Addr) : Turn P w K tg (Its z) [it] it (fun i h => h.IsStrIter it "str_ascii_iterator" z t i) where
  mem := by simp
  obj := fun i h st b hb => by
    have e : b = it := by simpa using hb
    subst e
    obtain ⟨o, e, c, d⟩ := st
    exact ⟨o, e, fun v z => by rw [d] at z; cases z⟩
  keep := fun i h h' st k => by
    obtain ⟨o, e, c, d⟩ := st
    exact ⟨o, k it (by simp) o e, c, d⟩
  item := by
    intro X hP hw hK hc i pins s σ H E I hf st hg
    subst hP hw hK
    obtain ⟨f0, f1, f2, f3, f4, f5⟩ := hf it (by simp)
    refine (Walks.strAscii (prog := X.prog) (w := X.w) (I.ok.hd hc) it z t).item i s _ _ hg st fun v h' tk hv st' kk => ?_
    obtain ⟨c, u, hc', rfl⟩ := hv
    have I1 : Inv X pins σ H { s with heap := h', toks := tk } := I.turned (fun b o hb e => kk b o (by simpa using hb) e) f0 f1 f3 f4 f5
    obtain ⟨o, e, c1, d1⟩ := id st'
    exact ⟨_, rfl, go_of (s := { s with heap := h', toks := tk }) e c1 d1 (by decide) ⟨.str ⟨#[c]⟩, H, I1, ⟨u, rfl⟩, ⟨rfl, c, hc', rfl⟩, st', fun b hb => (hf b hb).1⟩⟩
  done := by
    intro X hP hw hK hc i pins s σ H E I hf st hg
    subst hP hw hK
    obtain ⟨f0, f1, f2, f3, f4, f5⟩ := hf it (by simp)
    have hi : z.cps.size ≤ i := hg
    exact wpAny_pyNext_ascii_end (I.ok.hd hc) st (by simpa using hi) fun h' eb => ⟨rfl, I.turned (t' := s.toks) (fun b o hb e => eb b o hb e) f0 f1 f3 f4 f5⟩
  self := fun _ _ _ _ _ st h => wpAny_pyIter_striter_ascii st h
theorem turn_strWide {P : Program} {w : World} {K : PySem.W.Frag} {tg : Expr} (z : Str) (t : Tok) (it : Addr) : Turn P w K tg (Its z) [it] it (fun i h => h.IsStrIter it "str_iterator" z t i) where
  mem := by simp
  obj := fun i h st b hb => by
    have e : b = it := by simpa using hb
    subst e
    obtain ⟨o, e, c, d⟩ := st
    exact ⟨o, e, fun v z => by rw [d] at z; cases z⟩
  keep := fun i h h' st k => by
    obtain ⟨o, e, c, d⟩ := st
    exact ⟨o, k it (by simp) o e, c, d⟩
  item := by
    intro X hP hw hK hc i pins s σ H E I hf st hg
    subst hP hw hK
    obtain ⟨f0, f1, f2, f3, f4, f5⟩ := hf it (by simp)
    refine (Walks.strWide (prog := X.prog) (w := X.w) (I.ok.hd hc) it z t).item i s _ _ hg st fun v h' tk hv st' kk => ?_
    obtain ⟨c, u, hc', rfl⟩ := hv
    have I1 : Inv X pins σ H { s with heap := h', toks := tk } := I.turned (fun b o hb e => kk b o (by simpa using hb) e) f0 f1 f3 f4 f5
    obtain ⟨o, e, c1, d1⟩ := id st'
    exact ⟨_, rfl, go_of (s := { s with heap := h', toks := tk }) e c1 d1 (by decide) ⟨.str ⟨#[c]⟩, H, I1, ⟨u, rfl⟩, ⟨rfl, c, hc', rfl⟩, st', fun b hb => (hf b hb).1⟩⟩
  done := by
    intro X hP hw hK hc i pins s σ H E I hf st hg
    subst hP hw hK
    obtain ⟨f0, f1, f2, f3, f4, f5⟩ := hf it (by simp)
    have hi : z.cps.size ≤ i := hg
    exact wpAny_pyNext_wide_end (I.ok.hd hc) st (by simpa using hi) fun h' eb => ⟨rfl, I.turned (t' := s.toks) (fun b o hb e => eb b o hb e) f0 f1 f3 f4 f5⟩
  self := fun _ _ _ _ _ st h => wpAny_pyIter_striter_wide st h
section
variable {X : Cx} {tg : Expr}
theorem rangeD_it {pins : List (Addr × Obj)} {σ : St} {H : Hp} {s : Shared} {R : It → Hp → Prop} {E : Value → Shared → Prop} {lo hi : Int} {t u v : Tok} {tk : Nat} (I : Inv X pins σ H s) (hs : Builtin.Range.small lo hi (-1) = true)
    (q : R (ItrD lo (lo - hi).toNat) H) : wpAny (model X.prog X.w) X.A (pyIter (.ref s.heap.objs.size)) (PIE X pins σ tg R) E { s with heap := s.heap.push { cls := .type "range", data := .fields #[.int lo t, .int hi u, .int (-1) v] }, toks := tk } := by
  refine wpAny_pyIter_range (IsRange.new ..) hs ?_
  have I1 : Inv X pins σ H { s with heap := s.heap.push { cls := .type "range", data := .fields #[.int lo t, .int hi u, .int (-1) v] }, toks := tk } := I.kept fun b o e => Heap.get?_push_of_some _ e
  refine ⟨(s.heap.push { cls := .type "range", data := .fields #[.int lo t, .int hi u, .int (-1) v] }).objs.size, [(s.heap.push { cls := .type "range", data := .fields #[.int lo t, .int hi u, .int (-1) v] }).objs.size], _, _, H, rfl,
    I1.kept (t' := tk) fun b o e => Heap.get?_push_of_some _ e, turn_rangeD _ lo (lo - hi).toNat, ?_, fun b hb => ?_, q⟩
  · have e1 : lo + ((0 : Nat) : Int) * (-1) = lo := by simp
    have e2 : (((lo - hi).toNat : Nat) : Int) - ((0 : Nat) : Int) = Builtin.Range.rangeSize lo hi (-1) := by rw [PySem.W.rangeSize_downNat]; simp
    show IsRangeIter _ _ (lo + ((0 : Nat) : Int) * (-1)) ((((lo - hi).toNat : Nat) : Int) - ((0 : Nat) : Int)) (-1)
    rw [e1, e2]
    exact Heap.get?_push_size _ rfl
  · have e : b = (s.heap.push { cls := .type "range", data := .fields #[.int lo t, .int hi u, .int (-1) v] }).objs.size := by simpa using hb
    subst e
    exact I1.fpOk (Nat.le_refl _) (I1.hok.fresh (Nat.le_refl _))
noncomputable def iRngD (ta : TA) : TI := fun σ H R => ta σ H fun vs H1 => ∃ i j : Int, vs = [.int i, .int j, .int (-1)] ∧ (-(2 ^ 30) ≤ i ∧ i < 2 ^ 30 ∧ -(2 ^ 30) ≤ j ∧ j < 2 ^ 30) ∧ R (ItrD i (i - j).toNat) H1
theorem smallD {i j : Int} (h : -(2 ^ 30) ≤ i ∧ i < 2 ^ 30 ∧ -(2 ^ 30) ≤ j ∧ j < 2 ^ 30) : Builtin.Range.small i j (-1) = true := PySem.W.small_down (by omega) (by omega) (by omega) (by omega)
theorem pi_range3 {a b c : Expr} {ta : TA} {p pos : Pos} (hg : Gl X "range") (hm : X.mg "range" = none) (ha : PA X [a, b, c] ta) (hs : starEach [a, b, c] X.env = (false, eval a X.env) :: starEach [b, c] X.env := by rfl) (hs2 : (backTo pos (starEach [b, c] X.env)).any (·.1) = false := by rfl) :
    PI X tg (.Call (.Name "range" p) [a, b, c] [] pos) (iRngD ta) := by
  intro pins s σ H R I h
  refine Call_ (ld_blt I hg hm boot_range (PyProof.Rows.callWith_type1 (thn (ha pos pins s σ H _ I h) fun us s1 ⟨vs, H1, I1, r1, q1⟩ => ?_) hs hs2))
  obtain ⟨i, j, e, hb, q⟩ := q1
  subst e
  cases r1 with
  | cons r rr =>
    cases rr with
    | cons r' rr =>
      cases rr with
      | cons r'' rr =>
        cases rr
        obtain ⟨t, rfl⟩ := r
        obtain ⟨t', rfl⟩ := r'
        obtain ⟨t'', rfl⟩ := r''
        exact call_range_3 (by decide) (rangeD_it I1 (smallD hb) q) (Or.inl (PyProof.noPylong_small (by omega)))
noncomputable def iStrT (tl : TE) : TI := fun σ H R => tl σ H fun x H1 => ∃ z, x = .str z ∧ R (Its z) H1
theorem pi_str {l : Expr} {tl : TE} (hl : PE X l tl) : PI X tg l (iStrT tl) := by
  intro pins s σ H R I h
  refine thn (hl pins s σ H _ I h) fun v s1 ⟨x, H1, I1, r1, q1⟩ => ?_
  obtain ⟨z, e, q⟩ := q1
  subst e
  obtain ⟨t, rfl⟩ := r1
  have fp : ∀ b ∈ [s1.heap.objs.size], FpOk X pins H1 b := fun b hb => by
    have e : b = s1.heap.objs.size := by simpa using hb
    subst e
    exact I1.fpOk (Nat.le_refl _) (I1.hok.fresh (Nat.le_refl _))
  cases ha : z.cps.all (· < 128)
  · exact wpAny_pyIter_wide ha ⟨s1.heap.objs.size, [s1.heap.objs.size], _, _, H1, rfl, I1.kept (t' := s1.toks) fun b o e => Heap.get?_push_of_some _ e, turn_strWide z t _, ⟨_, Heap.get?_push_size _ rfl, rfl, rfl⟩, fp, q⟩
  · exact wpAny_pyIter_ascii ha ⟨s1.heap.objs.size, [s1.heap.objs.size], _, _, H1, rfl, I1.kept (t' := s1.toks) fun b o e => Heap.get?_push_of_some _ e, turn_strAscii z t _, ⟨_, Heap.get?_push_size _ rfl, rfl, rfl⟩, fp, q⟩
end
end L2
set_option maxHeartbeats 4000000
namespace L2
open PySem PySem.Spec PyProof.Rows
section
variable {X : Cx}
noncomputable def startsAt (x y : Str) (i : Int) : Bool := fromIndex x.length i + y.length ≤ x.length && Builtin.Str.subAt x y (fromIndex x.length i)
theorem mt_starts : MtR X "str.startswith" (fun x xs H Q => ∃ z y i, x = .str z ∧ xs = [.str y, .int i] ∧ Q (.bl (startsAt z y i)) H) := by
  intro pins s σ H x xs v us Q I rx rv h
  obtain ⟨z, y, i, rfl, rfl, q⟩ := h
  obtain ⟨t, rfl⟩ := rx
  cases rv with
  | cons r rr =>
    cases rr with
    | cons r' rr =>
      cases rr
      obtain ⟨t1, rfl⟩ := r
      obtain ⟨t2, rfl⟩ := r'
      exact call_gives F.slot_str_startswith (typeIs_str _ _ _) F.entry_str_startswith (F.args_str_startswith_3 _ _ _) (gives_str_startswith_from z y i t t1 t2) ⟨.bl _, H, I, rfl, q⟩
end
end L2
set_option maxHeartbeats 4000000
namespace DL
open PySem PySem.Spec L2 PyProof.Rows
section
variable {X : Cx} {K : PySem.W.Frag} {a b c e o tg : Expr} {f h l : Fe} {pos apos cpos : Pos}
noncomputable def gLenS : List D → Option D
  | [.str z] => if z.length ≤ sizeLine then some (.int z.length) else none
  | _ => none
theorem a_lenS : OpN K (fun xs H Q => ∃ z, xs = [.str z] ∧ z.length ≤ sizeLine ∧ Q (.int z.length) H) gLenS := by
  intro Hs H xs z us Q s r e q
  unfold gLenS at e
  split at e
  · obtain ⟨hz, rfl⟩ := ite_some e
    cases r with
    | cons r rs =>
    cases rs
    cases r
    exact ⟨_, rfl, hz, q _ H Hs (Grow.refl s) (.int _)⟩
  · cases e
noncomputable def gStarts : D → D → D → Option D
  | .str x, .str y, .int i => some (.bl (startsAt x y i))
  | _, _, _ => none
theorem pf_starts (ha : PF X K a f) (hb : PF X K b h) (hc : PF X K c l) (hs2 : starEach [c] X.env = [(false, eval c X.env)] := by rfl) (hs : starEach [b, c] X.env = (false, eval b X.env) :: starEach [c] X.env := by rfl)
    (hbase : attributeBase a "startswith" X.env (eval a X.env) = eval a X.env := by rfl)
    (hfew : ((backTo cpos (starEach [b, c] X.env)).all (fun x => !x.1) && (backToKw cpos (keywordEach [] X.env)).all (fun x => x.1.isSome) && decide (([b, c] : List Expr).length + ([] : List Keyword).length + (if ([] : List Keyword).isEmpty then 0 else 1) < 30)) = true := by rfl)
    (hline : (apos.endLine == cpos.line) = true := by rfl) (hplain : (backTo cpos (starEach [c] X.env)).any (·.1) = false := by rfl) : PF X K (.Call (.Attribute a "startswith" apos) [b, c] [] cpos) (f3 gStarts f h l) := fun hK => by
  refine PE.imp (pe_bm PySem.F.plainAttrs_str PySem.F.slot_str_startswith PySem.F.type_str_startswith mt_starts (ha hK) (pa_cons (hb hK) (pa_cons (hc hK) pa_nil hs2) hs) hbase hfew hline hs hplain) fun σ H Q ⟨ρ, Hs, d, st, ef, k⟩ => ?_
  unfold f3 at ef
  obtain ⟨x, e1, ef⟩ := bind1 ef
  obtain ⟨y, e2, ef⟩ := bind1 ef
  obtain ⟨z, e3, ef⟩ := bind1 ef
  unfold gStarts at ef
  split at ef
  · cases ef
    refine ⟨ρ, Hs, _, st, e1, fun v H1 Hs1 g1 r1 => ?_⟩
    cases r1
    refine ⟨rfl, ρ, Hs1, _, st.grow g1, e2, fun v2 H2 Hs2 g2 r2 => ⟨ρ, Hs2, _, (st.grow g1).grow g2, e3, fun v3 H3 Hs3 g3 r3 => ?_⟩⟩
    cases r2
    cases r3
    exact ⟨_, _, _, rfl, rfl, k _ H3 Hs3 ((g1.trans g2).trans g3) (.bl _)⟩
  · cases ef
noncomputable def iStr (f : Fe) : Fi := fun ρ => match f ρ with
  | some (.str z) => some (z.cps.toList.map fun c => D.str ⟨#[c]⟩)
  | _ => none
theorem pi_strF (he : PF X K e f) : PFI X K tg e (iStr f) := fun hK => by
  refine PI.imp (pi_str (he hK)) fun σ H R ⟨ρ, Hs, ds, st, ef, k⟩ => ?_
  unfold iStr at ef
  split at ef
  · rename_i z q
    cases ef
    refine ⟨ρ, Hs, _, st, q, fun v H' Hs' g r => ?_⟩
    cases r
    refine ⟨z, rfl, k _ H' Hs' g ?_⟩
    intro i Hs1 H s1 s2
    refine ⟨fun d e => ?_, fun hl => show z.cps.size ≤ i by simpa using hl⟩
    rw [List.getElem?_map] at e
    cases w : z.cps.toList[i]? with
    | none => rw [w] at e; cases e
    | some c =>
      rw [w] at e
      cases e
      have hi : i < z.cps.size := by
        have := (List.getElem?_eq_some_iff.mp w).1
        simpa using this
      refine ⟨hi, fun x H' y => ?_⟩
      obtain ⟨e1, c', e2, e3⟩ := y
      subst e1 e3
      have : c' = c := by
        have w' : z.cps[i]? = some c := by simpa using w
        rw [w'] at e2
        exact (Option.some.inj e2).symm
      subst this
      exact ⟨Hs1, Grow.refl s2, .str _⟩
  · cases ef
noncomputable def iRngDn (f h l : Fe) : Fi := fun ρ => match f ρ, h ρ, l ρ with
  | some (.int i), some (.int j), some (.int (-1)) => if -(2 ^ 30) ≤ i ∧ i < 2 ^ 30 ∧ -(2 ^ 30) ≤ j ∧ j < 2 ^ 30 then some ((List.range (i - j).toNat).map fun (k : Nat) => D.int (i + (k : Int) * (-1))) else none
  | _, _, _ => none
theorem pi_range3F {p : Pos} (hg : Gl X "range") (hm : X.mg "range" = none) (ha : PF X K a f) (hb : PF X K b h) (hc : PF X K c l) (hs : starEach [a, b, c] X.env = (false, eval a X.env) :: starEach [b, c] X.env := by rfl) (hs2 : starEach [b, c] X.env = (false, eval b X.env) :: starEach [c] X.env := by rfl) (hs3 : starEach [c] X.env = [(false, eval c X.env)] := by rfl) (hpl : (backTo pos (starEach [b, c] X.env)).any (·.1) = false := by rfl) :
    PFI X K tg (.Call (.Name "range" p) [a, b, c] [] pos) (iRngDn f h l) := fun hK => by
  refine PI.imp (pi_range3 hg hm (pa_cons (ha hK) (pa_cons (hb hK) (pa_cons (hc hK) pa_nil hs3) hs2) hs) hs hpl) fun σ H R ⟨ρ, Hs, ds, st, ef, k⟩ => ?_
  unfold iRngDn at ef
  split at ef
  · rename_i i j q1 q2 q3
    obtain ⟨hj, rfl⟩ := ite_some ef
    refine ⟨ρ, Hs, _, st, q1, fun v H1 Hs1 g1 r1 => ⟨ρ, Hs1, _, st.grow g1, q2, fun v2 H2 Hs2 g2 r2 => ⟨ρ, Hs2, _, (st.grow g1).grow g2, q3, fun v3 H3 Hs3 g3 r3 => ?_⟩⟩⟩
    cases r1
    cases r2
    cases r3
    refine ⟨i, j, rfl, hj, k _ H3 Hs3 ((g1.trans g2).trans g3) ?_⟩
    intro n Hs1 H s1 s2
    refine ⟨fun d e => ?_, fun hl => show (i - j).toNat ≤ n by simpa using hl⟩
    have hi : n < (i - j).toNat := by
      have := (List.getElem?_eq_some_iff.mp e).1
      simpa using this
    have hd : d = .int (i + (n : Int) * (-1)) := by
      rw [List.getElem?_map, List.getElem?_range hi] at e
      exact (Option.some.inj e).symm
    subst hd
    refine ⟨hi, fun x H' y => ?_⟩
    obtain ⟨e1, e2⟩ := y
    subst e1 e2
    exact ⟨Hs1, Grow.refl s2, .int _⟩
  · cases ef
end
end DL
set_option maxHeartbeats 4000000
namespace DL
open PySem PySem.Spec L2
noncomputable def okT : Nat → D → Bool
  | 0, _ => false
  | _ + 1, .non => true
  | _ + 1, .int _ => true
  | _ + 1, .str _ => true
  | n + 1, .lst xs => xs.all (okT n)
  | n + 1, .tup xs => xs.all (okT n)
  | _ + 1, _ => false
theorem all_true (l : List Nat) : (l.all fun _ => true) = true := List.all_eq_true.mpr fun _ _ => rfl
section
variable {K : PySem.W.Frag}
open SeqAt in
theorem sameEls {A : Around} {s : Shared} {Hs : Hp} {n : Nat} (ih : ∀ {d : D} {u v : V} {x y : Value}, okT n d = true → Rep K Hs d u → RelV u x → Rep K Hs d v → RelV v y → EqAt A s x y true) {xs ys : List V} {ds : List D} {its its2 : List Value} (k : ∀ d ∈ ds, okT n d = true) (r : Reps K Hs ds xs) (q : Reps K Hs ds ys) (rv : Vals xs its) (qv : Vals ys its2) :
    ∀ j (h1 : j < its.toArray.size) (h2 : j < its2.toArray.size), EqAt A s its.toArray[j] its2.toArray[j] true := fun j j1 j2 => by
  have l1 := r.length
  have l2 := q.length
  have l3 := rv.length
  have l4 := qv.length
  have j1' : j < its.length := by simpa using j1
  have j2' : j < its2.length := by simpa using j2
  have e1 : ds[j]? = some ds[j] := List.getElem?_eq_getElem (by lia)
  obtain ⟨v1, g1, r1⟩ := r.get e1
  obtain ⟨v2, g2, r2⟩ := q.get e1
  obtain ⟨u1, f1, w1⟩ := rv.get g1
  obtain ⟨u2, f2, w2⟩ := qv.get g2
  have z1 : its.toArray[j] = u1 := by
    rw [List.getElem?_eq_getElem j1'] at f1
    simpa using Option.some.inj f1
  have z2 : its2.toArray[j] = u2 := by
    rw [List.getElem?_eq_getElem j2'] at f2
    simpa using Option.some.inj f2
  rw [z1, z2]
  exact ih (k _ (List.getElem_mem _)) r1 w1 r2 w2
open SeqAt in
theorem sameAt {P : Program} {w : World} {Hs H : Hp} {s : Shared} (hok : HOk P w H s.heap) (sm : Same Hs H) : ∀ (n : Nat) (A : Around) {d : D} {u v : V} {x y : Value}, A.units + n < cLine → okT n d = true → Rep K Hs d u → RelV u x → Rep K Hs d v → RelV v y → EqAt A s x y true
  | 0, _, _, _, _, _, _, _, h, _, _, _, _ => by cases h
  | n + 1, A, d, u, v, x, y, hu, h1, r, rx, q, ry => by
    have hu0 : A.units < cLine := by lia
    have hu1 : A.in1.units + n < cLine := by show A.units + 1 + n < cLine; lia
    cases r with
    | non => cases q; cases rx; cases ry; exact EqAt.same _
    | int i =>
      cases q
      obtain ⟨t, rfl⟩ := rx
      obtain ⟨t', rfl⟩ := ry
      have := EqAt.int_int (A := A) (s := s) i t i t'
      rwa [beq_self_eq_true] at this
    | str i =>
      cases q
      obtain ⟨t, rfl⟩ := rx
      obtain ⟨t', rfl⟩ := ry
      have := EqAt.str_str (A := A) (s := s) i t i t'
      rwa [beq_self_eq_true] at this
    | @lst a xs ds h r =>
      cases q with
      | @lst b ys _ h' q =>
        cases rx
        cases ry
        by_cases hab : a = b
        · subst hab; exact EqAt.same _
        · obtain ⟨_, its, n1, rv, e1⟩ := hok a _ (sm _ _ h)
          obtain ⟨_, its2, n2, qv, e2⟩ := hok b _ (sm _ _ h')
          have l1 := r.length
          have l2 := q.length
          have l3 := rv.length
          have l4 := qv.length
          refine EqAt.of_refs hab ?_
          have := RcAt.lists (A := A) ⟨_, e1, rfl, _, rfl⟩ ⟨_, e2, rfl, _, rfl⟩ (by simp only [List.size_toArray]; lia) hu0 (e := fun _ => true) (sameEls (fun k r1 w1 r2 w2 => sameAt hok sm n A.in1 hu1 k r1 w1 r2 w2) (List.all_eq_true.mp h1) r q rv qv)
          rw [all_true] at this
          exact this
    | @tup a xs ds h r =>
      cases q with
      | @tup b ys _ h' q =>
        cases rx
        cases ry
        by_cases hab : a = b
        · subst hab; exact EqAt.same _
        · obtain ⟨_, its, rv, e1⟩ := hok a _ (sm _ _ h)
          obtain ⟨_, its2, qv, e2⟩ := hok b _ (sm _ _ h')
          have l1 := r.length
          have l2 := q.length
          have l3 := rv.length
          have l4 := qv.length
          refine EqAt.of_refs hab ?_
          have := RcAt.tuples (A := A) e1 e2 hu0 (e := fun _ => true) (sameEls (fun k r1 w1 r2 w2 => sameAt hok sm n A.in1 hu1 k r1 w1 r2 w2) (List.all_eq_true.mp h1) r q rv qv)
          have ez2 : (its.toArray.size == its2.toArray.size) = true := by simp only [List.size_toArray]; simp; lia
          rw [ez2, all_true] at this
          exact this
    | _ => cases h1
open Classical in
noncomputable def gNeL (x y : D) : Option D := match x, y with
  | .lst ds, .lst es => if ds = es ∧ okT 8 (.lst ds) = true then some (.bl false) else none
  | _, _ => none
end
end DL
set_option maxHeartbeats 4000000
namespace DL
open PySem PySem.Spec L2 PyProof.Rows
noncomputable def del (H : Hp) (a : Addr) : Hp := fun b => if b = a then none else H b
theorem del_ne {H : Hp} {a b : Addr} (h : b ≠ a) : del H a b = H b := if_neg h
theorem del_at {H : Hp} {a : Addr} : del H a a = none := if_pos rfl
section
variable {X : Cx} {K : PySem.W.Frag} {k : Nat} {x y z : Str} {C : Addr} {p pos pos' cpos pz : Pos} {e : Expr} {fm : Fe} {ps ns : List Str} {FM : List D → Option (List D ⊕ Addr)}
end
end DL
set_option maxHeartbeats 4000000
namespace DL
open PySem PySem.Spec L2 PyProof.Rows
section
variable {X : Cx} {K : PySem.W.Frag} {a b c e o tg : Expr} {es : List Expr} {f h l : Fe} {pos apos cpos : Pos}
noncomputable def fFlat (f : Fe) : Fe := fun ρ => (f ρ).bind fun d => if scalD d then some d else none
theorem pfn_flat (ha : PF X K a f) : PFN X K a (fFlat f) := fun hK => PE.imp (ha hK) fun σ H Q ⟨ρ, Hs, d, st, ef, k⟩ => by
  obtain ⟨d', e1, e2⟩ := bind1 ef
  obtain ⟨hf, rfl⟩ := ite_some e2
  exact ⟨ρ, Hs, d', st, e1, fun v H' Hs' g r => k v H' Hs' g (scal_rep r hf)⟩
end
section
variable {X : Cx} {K : PySem.W.Frag} {sc : Scope} {own : List Str} {fr : List (Str × Nat)} {elt tg iter : Expr} {ifs : List Expr} {pos : Pos} {fi : Fi} {ft : Ft} {t : Rho → Option Bool} {f h : Fe} {a b : Expr}
noncomputable def gCatN (i : Nat) (f h : Fe) : Fs := fun ρ => (f ρ).bind fun d => (h ρ).bind fun d' => match d, d' with
  | .lst xs, .lst ys => if xs.length + ys.length ≤ sizeLine then some (.nx (ρ.set i (some (.own (xs ++ ys))))) else none
  | _, _ => none
theorem ps_catN (i : Nat) {x : Str} {bp pos' : Pos} (hNd : X.N.Nodup) (ha : PF X K a f) (hb : PF X K b h) (hi : X.N[i]? = some x := by rfl) (hx : Loc X.env.scope x := by first | exact Or.inl rfl | exact Or.inr rfl)
    (hs : swapsWith (.BinOp a .Add b bp) (some (.Name x pos')) pos.line X.env = pure false := by rfl)
    (hf : X.fn x = true ∨ X.env.scope.names.lookup x = some .local := by first | exact .inl rfl | exact .inr rfl | assumption) : PFS X K (.Assign [.Name x pos'] (.BinOp a .Add b bp) pos) (gCatN i f h) := fun hK =>
  PS.imp (ps_set hNd hi hx (pe_op op_cat (ha hK) (hb hK)) hs hf) fun Dn σ H ⟨Hs₀, H₀, ρ, Hs, out, s, ef, k⟩ => by
  obtain ⟨d, e1, e2⟩ := bind1 ef
  obtain ⟨d', e3, e4⟩ := bind1 e2
  split at e4
  · rename_i xs ys
    obtain ⟨hz, rfl⟩ := ite_some e4
    refine ⟨ρ, Hs, _, s.st, e1, fun v H1 Hs1 g1 r1 => ⟨ρ, Hs1, _, (s.grow g1).st, e3, fun v2 H2 Hs2 g2 r2 => ?_⟩⟩
    cases r1 with
    | @lst p vs _ h1 q1 =>
      cases r2 with
      | @lst p2 us _ h2 q2 =>
        refine ⟨p, p2, vs, us, rfl, rfl, g2.h _ _ (g1.sub _ _ h1), g2.sub _ _ h2, by rw [← q1.length, ← q2.length]; exact hz, fun p3 hp => ?_⟩
        exact k _ _ Hs2 (((s.grow g1).grow g2).setOwn hp ((q1.mono g2.hs).append q2)) (g1.trans g2).hs
  · cases e4
end
end DL
set_option maxHeartbeats 4000000
namespace SQ
open PySem PySem.SetTable
noncomputable def rows : Nat → List (List Nat)
  | 0 => [[]]
  | n + 1 => (rows n).flatMap fun l => ((List.range 8).filter fun j => l.all (fun k => decide (k < j))).map fun j => l ++ [j]
noncomputable def T (l : List Nat) : SetTable := { fresh 0 0 true with place := l.toArray }
noncomputable def occ (l : List Nat) (j : Nat) : Bool := match (T l).slot j with
  | .live _ => true
  | _ => false
noncomputable def fine (l : List Nat) : Bool := (List.range 8).all fun j => match (T l).slot j with
  | .live i => decide (l[i]? = some j) && (List.range l.length).all fun i2 => !(l[i2]? == some j) || i2 == i
  | .empty =>
    let p := below l.toArray j
    let l' := (insertAt l.toArray p j).toList
    (!l.contains j) && decide (p ≤ l.length) && (decide (4 ≤ l.length) || ((rows (l.length + 1)).contains l' && (List.range 8).all fun k => occ l' k == (occ l k || k == j)))
  | .dummy => false
noncomputable def roomy (l : List Nat) : Bool := (List.range 8).any fun j => !occ l j
theorem fine_0 : (rows 0).all (fun l => fine l && roomy l) = true := by decide +kernel
theorem fine_1 : (rows 1).all (fun l => fine l && roomy l) = true := by decide +kernel
theorem fine_2 : (rows 2).all (fun l => fine l && roomy l) = true := by decide +kernel
theorem fine_3 : (rows 3).all (fun l => fine l && roomy l) = true := by decide +kernel
theorem fine_4 : (rows 4).all (fun l => fine l && roomy l) = true := by decide +kernel
noncomputable def stp (p : Nat × Nat) : Nat × Nat := ((p.1 * 5 + 1 + p.2 / 32) % 8, p.2 / 32)
noncomputable def sq (h : Int) : Nat → Nat × Nat
  | 0 => (bits h % 8, bits h)
  | n + 1 => stp (sq h n)
theorem sq_lt (h : Int) : ∀ n, (sq h n).1 < 8
  | 0 => Nat.mod_lt _ (by decide)
  | n + 1 => Nat.mod_lt _ (by decide)
theorem sq_pert (h : Int) : ∀ n, (sq h n).2 = bits h / 32 ^ n
  | 0 => by simp [sq]
  | n + 1 => by
    show (sq h n).2 / 32 = _
    rw [sq_pert h n, Nat.div_div_eq_div_mul, Nat.pow_succ]
theorem sq_flat (h : Int) {n : Nat} (hn : 13 ≤ n) : (sq h n).2 = 0 := by
  rw [sq_pert]
  have h1 : bits h < 2 ^ 64 := by
    unfold bits
    have := Int.emod_lt_of_pos h (show (0 : Int) < 2 ^ 64 by decide)
    have h2 := Int.emod_nonneg h (show (2 ^ 64 : Int) ≠ 0 by decide)
    omega
  refine Nat.div_eq_of_lt (Nat.lt_of_lt_of_le h1 ?_)
  refine Nat.le_trans (show 2 ^ 64 ≤ 32 ^ 13 by decide) (Nat.pow_le_pow_right (by decide) hn)
noncomputable def s5 : Nat → Nat → Nat
  | i, 0 => i
  | i, n + 1 => (s5 i n * 5 + 1) % 8
theorem s5_all : ∀ i < 8, ∀ j < 8, ∃ n < 8, s5 i n = j := by decide +kernel
theorem sq_s5 (h : Int) {n : Nat} (hn : 13 ≤ n) : ∀ m, (sq h (n + m)).1 = s5 (sq h n).1 m
  | 0 => rfl
  | m + 1 => by
    show ((sq h (n + m)).1 * 5 + 1 + (sq h (n + m)).2 / 32) % 8 = (s5 (sq h n).1 m * 5 + 1) % 8
    rw [sq_flat h (show 13 ≤ n + m by omega), sq_s5 h hn m]
theorem sq_meets (h : Int) (n : Nat) {j : Nat} (hj : j < 8) : ∃ m, n ≤ m ∧ m < n + 21 ∧ (sq h m).1 = j := by
  obtain ⟨k, hk, e⟩ := s5_all _ (sq_lt h (n + 13)) j hj
  exact ⟨n + 13 + k, by omega, by omega, by rw [sq_s5 h (by omega), e]⟩
end SQ
set_option maxHeartbeats 4000000
namespace SQ
open PySem PySem.SetTable
noncomputable def pr (h : Int) (n : Nat) : Probe := { j := (sq h n).1, more := 0, i := (sq h n).1, perturb := (sq h n).2, dummy := none }
theorem rows_len : ∀ {n : Nat} {l : List Nat}, l ∈ rows n → l.length = n
  | 0, l, h => by rw [List.mem_singleton.mp h]; rfl
  | n + 1, l, h => by
    obtain ⟨l0, h0, h1⟩ := List.mem_flatMap.mp h
    obtain ⟨j, _, rfl⟩ := List.mem_map.mp h1
    rw [List.length_append, rows_len h0]
    rfl
theorem fine_of {n : Nat} {l : List Nat} (hn : n ≤ 4) (h : l ∈ rows n) : fine l = true ∧ roomy l = true := by
  have key : (rows n).all (fun l => fine l && roomy l) = true := by
    match n, hn with
    | 0, _ => exact fine_0
    | 1, _ => exact fine_1
    | 2, _ => exact fine_2
    | 3, _ => exact fine_3
    | 4, _ => exact fine_4
  exact Bool.and_eq_true_iff.mp (List.all_eq_true.mp key l h)
structure TB (t : SetTable) (l : List Nat) (hs : List Int) : Prop where
  mask : t.mask = 7
  dum : t.dummies = #[]
  pl : t.place = l.toArray
  row : l ∈ rows l.length
  few : l.length ≤ 4
  len : l.length = hs.length
  path : ∀ (i : Nat) (h : Int) (j : Nat), hs[i]? = some h → l[i]? = some j → ∃ n, (sq h n).1 = j ∧ ∀ m, m < n → occ l (sq h m).1 = true
section
variable {t : SetTable} {l : List Nat} {hs : List Int}
theorem TB.slot (b : TB t l hs) (j : Nat) : t.slot j = (T l).slot j := by
  unfold SetTable.slot
  rw [b.pl, b.dum]
  rfl
theorem TB.live (b : TB t l hs) {j : Nat} (hj : j < 8) (h : occ l j = true) : ∃ i, t.slot j = .live i ∧ l[i]? = some j ∧ ∀ i2, l[i2]? = some j → i2 = i := by
  rw [b.slot]
  have f := List.all_eq_true.mp (fine_of b.few b.row).1 j (List.mem_range.mpr hj)
  unfold occ at h
  split at h
  · rename_i i e
    rw [e] at f
    obtain ⟨f1, f2⟩ := Bool.and_eq_true_iff.mp f
    refine ⟨i, e, of_decide_eq_true f1, fun i2 q => ?_⟩
    have := List.all_eq_true.mp f2 i2 (List.mem_range.mpr (List.getElem?_eq_some_iff.mp q).1)
    rw [q, Bool.or_eq_true] at this
    rcases this with z | z
    · simp at z
    · exact eq_of_beq z
  · cases h
theorem TB.mem (b : TB t l hs) {i j : Nat} (hj : j < 8) (h : l[i]? = some j) : occ l j = true := by
  cases e : occ l j with
  | true => rfl
  | false =>
    have f := List.all_eq_true.mp (fine_of b.few b.row).1 j (List.mem_range.mpr hj)
    unfold occ at e
    split at e
    · cases e
    · rename_i ne
      cases e : (T l).slot j with
      | live i => exact absurd e (ne i)
      | dummy => rw [e] at f; cases f
      | empty =>
        rw [e] at f
        dsimp only at f
        rw [Bool.and_eq_true, Bool.and_eq_true] at f
        have := f.1.1
        rw [List.contains_iff_mem.mpr (List.mem_of_getElem? h)] at this
        cases this
theorem TB.live_occ (b : TB t l hs) {i j : Nat} (h : t.slot j = .live i) : occ l j = true := by
  rw [b.slot] at h
  unfold occ
  rw [h]
theorem TB.empty (b : TB t l hs) {j : Nat} (hj : j < 8) (h : occ l j = false) : t.slot j = .empty ∧ below l.toArray j ≤ l.length ∧ (l.length < 4 → (insertAt l.toArray (below l.toArray j) j).toList ∈ rows (l.length + 1) ∧ ∀ k, k < 8 → occ (insertAt l.toArray (below l.toArray j) j).toList k = (occ l k || k == j)) := by
  rw [b.slot]
  have f := List.all_eq_true.mp (fine_of b.few b.row).1 j (List.mem_range.mpr hj)
  unfold occ at h
  split at h
  · cases h
  · rename_i ne
    cases e : (T l).slot j with
    | live i => exact absurd e (ne i)
    | dummy => rw [e] at f; cases f
    | empty =>
      rw [e] at f
      dsimp only at f
      rw [Bool.and_eq_true, Bool.and_eq_true, Bool.or_eq_true, Bool.and_eq_true] at f
      refine ⟨rfl, of_decide_eq_true f.1.2, fun hl => ?_⟩
      rcases f.2 with q | q
      · have := of_decide_eq_true q
        omega
      · exact ⟨List.contains_iff_mem.mp q.1, fun k hk => eq_of_beq (List.all_eq_true.mp q.2 k (List.mem_range.mpr hk))⟩
theorem TB.start (b : TB t l hs) (h : Int) : t.probeStart h = pr h 0 := by
  unfold SetTable.probeStart pr sq runEnd
  rw [b.mask]
  have : ¬ (bits h % (7 + 1) + 9 ≤ 7) := by omega
  simp only [if_neg this, Nat.sub_self]
theorem TB.adv (b : TB t l hs) (h : Int) (n : Nat) : t.advance (pr h n) = pr h (n + 1) := by
  have h0 : ¬ ((sq h n).1 * 5 + 1 + (sq h n).2 / 32) % (7 + 1) + 9 ≤ 7 := by omega
  unfold SetTable.advance
  rw [if_neg (show ¬ (pr h n).more > 0 by unfold pr; exact Nat.lt_irrefl 0)]
  unfold leap runEnd
  rw [b.mask]
  show ({ j := ((sq h n).1 * 5 + 1 + (sq h n).2 / 32) % (7 + 1), more := (if ((sq h n).1 * 5 + 1 + (sq h n).2 / 32) % (7 + 1) + 9 ≤ 7 then ((sq h n).1 * 5 + 1 + (sq h n).2 / 32) % (7 + 1) + 9 else ((sq h n).1 * 5 + 1 + (sq h n).2 / 32) % (7 + 1)) - ((sq h n).1 * 5 + 1 + (sq h n).2 / 32) % (7 + 1), i := ((sq h n).1 * 5 + 1 + (sq h n).2 / 32) % (7 + 1), perturb := (sq h n).2 / 32, dummy := none } : Probe) = _
  rw [if_neg h0, Nat.sub_self]
  rfl
theorem TB.free (b : TB t l hs) (h : Int) (n : Nat) : ∃ m, n ≤ m ∧ m < n + 21 ∧ occ l (sq h m).1 = false := by
  obtain ⟨j, hj, e⟩ := List.any_eq_true.mp (fine_of b.few b.row).2
  obtain ⟨m, h1, h2, h3⟩ := sq_meets h n (List.mem_range.mp hj)
  exact ⟨m, h1, h2, by rw [h3]; simpa using e⟩
theorem TB.go (b : TB t l hs) (hashAt : Nat → Int) (h : Int) : ∀ (fuel n : Nat), (∃ m, n ≤ m ∧ m < n + fuel ∧ occ l (sq h m).1 = false) →
    ∃ m, n ≤ m ∧ (∀ k, n ≤ k → k < m → ∃ i, t.slot (sq h k).1 = .live i ∧ hashAt i ≠ h) ∧
      ((occ l (sq h m).1 = false ∧ probe.go t hashAt h fuel (pr h n) = some (.empty (sq h m).1 none)) ∨
       ∃ i, t.slot (sq h m).1 = .live i ∧ l[i]? = some (sq h m).1 ∧ hashAt i = h ∧ occ l (sq h m).1 = true ∧ probe.go t hashAt h fuel (pr h n) = some (.candidate (sq h m).1 i (pr h (m + 1))))
  | 0, n, ⟨m, h1, h2, _⟩ => absurd h2 (by omega)
  | fuel + 1, n, ⟨m, h1, h2, h3⟩ => by
    cases e : occ l (sq h n).1 with
    | false =>
      refine ⟨n, Nat.le_refl _, fun k a c => absurd a (by omega), .inl ⟨e, ?_⟩⟩
      unfold probe.go
      rw [show (pr h n).j = (sq h n).1 from rfl, (b.empty (sq_lt h n) e).1]
      rfl
    | true =>
      obtain ⟨i, es, el, _⟩ := b.live (sq_lt h n) e
      by_cases hh : hashAt i = h
      · refine ⟨n, Nat.le_refl _, fun k a c => absurd a (by omega), .inr ⟨i, es, el, hh, e, ?_⟩⟩
        unfold probe.go
        rw [show (pr h n).j = (sq h n).1 from rfl, es]
        dsimp only
        rw [if_pos (by rw [hh]; exact beq_self_eq_true _), b.adv]
      · have nm : n ≠ m := fun z => by rw [← z, e] at h3; cases h3
        obtain ⟨m', q1, q2, q3⟩ := b.go hashAt h fuel (n + 1) ⟨m, by omega, by omega, h3⟩
        refine ⟨m', by omega, fun k a c => ?_, ?_⟩
        · by_cases z : k = n
          · subst z; exact ⟨i, es, hh⟩
          · exact q2 k (by omega) c
        · have eg : probe.go t hashAt h (fuel + 1) (pr h n) = probe.go t hashAt h fuel (pr h (n + 1)) := by
            conv => lhs; unfold probe.go
            rw [show (pr h n).j = (sq h n).1 from rfl, es]
            dsimp only
            rw [if_neg (by simpa using hh), b.adv]
          rw [eg]
          exact q3
theorem TB.probe (b : TB t l hs) (hashAt : Nat → Int) (h : Int) (n : Nat) :
    ∃ m, n ≤ m ∧ (∀ k, n ≤ k → k < m → ∃ i, t.slot (sq h k).1 = .live i ∧ hashAt i ≠ h) ∧
      ((occ l (sq h m).1 = false ∧ t.probe hashAt h (pr h n) = some (.empty (sq h m).1 none)) ∨
       ∃ i, t.slot (sq h m).1 = .live i ∧ l[i]? = some (sq h m).1 ∧ hashAt i = h ∧ occ l (sq h m).1 = true ∧ t.probe hashAt h (pr h n) = some (.candidate (sq h m).1 i (pr h (m + 1)))) := by
  obtain ⟨m, h1, h2, h3⟩ := b.free h n
  unfold SetTable.probe
  refine b.go hashAt h _ n ⟨m, h1, ?_, h3⟩
  rw [b.mask]
  show m < n + 10 * (7 + 15)
  omega
theorem ins_list {α : Type} {xs : Array α} {p : Nat} {x : α} (h : p ≤ xs.size) : (insertAt xs p x).toList = xs.toList.take p ++ x :: xs.toList.drop p := by
  unfold insertAt
  rw [Array.toList_append, Array.toList_push, Array.toList_extract, Array.toList_extract]
  simp [List.extract, List.take_of_length_le]
theorem ins_get {α : Type} {xs : List α} {p : Nat} {x : α} (h : p ≤ xs.length) (i : Nat) : (xs.take p ++ x :: xs.drop p)[i]? = if i < p then xs[i]? else if i = p then some x else xs[i - 1]? := by
  by_cases h1 : i < p
  · rw [if_pos h1, List.getElem?_append_left (by rw [List.length_take]; omega), List.getElem?_take, if_pos h1]
  · rw [if_neg h1, List.getElem?_append_right (by rw [List.length_take]; omega), List.length_take, Nat.min_eq_left h]
    by_cases h2 : i = p
    · rw [if_pos h2, h2, Nat.sub_self]; rfl
    · rw [if_neg h2]
      obtain ⟨k, hk⟩ : ∃ k, i - p = k + 1 := ⟨i - p - 1, by omega⟩
      rw [hk, List.getElem?_cons_succ, List.getElem?_drop]
      congr 1
      omega
theorem TB.put (b : TB t l hs) {h : Int} {n : Nat} (hl : l.length < 4) (he : occ l (sq h n).1 = false) (hp : ∀ m, m < n → occ l (sq h m).1 = true) :
    (t.put (sq h n).1).2 ≤ hs.length ∧ TB (t.put (sq h n).1).1 (l.take (t.put (sq h n).1).2 ++ (sq h n).1 :: l.drop (t.put (sq h n).1).2) (hs.take (t.put (sq h n).1).2 ++ h :: hs.drop (t.put (sq h n).1).2) := by
  obtain ⟨e1, e2, e3⟩ := b.empty (sq_lt h n) he
  obtain ⟨e3, e4⟩ := e3 hl
  have ep : (t.put (sq h n).1).2 = below l.toArray (sq h n).1 := by unfold SetTable.put; rw [b.pl]
  have el : (insertAt l.toArray (below l.toArray (sq h n).1) (sq h n).1).toList = l.take (below l.toArray (sq h n).1) ++ (sq h n).1 :: l.drop (below l.toArray (sq h n).1) := ins_list e2
  rw [el] at e3 e4
  rw [ep]
  have hlen : (l.take (below l.toArray (sq h n).1) ++ (sq h n).1 :: l.drop (below l.toArray (sq h n).1)).length = l.length + 1 := rows_len e3
  have mono : ∀ k, k < 8 → occ l k = true → occ (l.take (below l.toArray (sq h n).1) ++ (sq h n).1 :: l.drop (below l.toArray (sq h n).1)) k = true := fun k hk e => by rw [e4 k hk, e]; rfl
  refine ⟨by rw [← b.len]; exact e2, ?_, ?_, ?_, ?_, ?_, ?_, fun i h' j q1 q2 => ?_⟩
  · unfold SetTable.put; exact b.mask
  · unfold SetTable.put
    show (if has t.dummies (sq h n).1 then _ else _) = _
    rw [b.dum]
    rfl
  · unfold SetTable.put
    show insertAt t.place (below t.place (sq h n).1) (sq h n).1 = _
    rw [b.pl, ← el]
  · rw [hlen]; exact e3
  · rw [hlen]; omega
  · rw [hlen, List.length_append, List.length_cons, List.length_take, List.length_drop]
    have := b.len
    omega
  · rw [ins_get (by rw [← b.len]; exact e2)] at q1
    rw [ins_get e2] at q2
    split at q1
    · rename_i hi
      rw [if_pos hi] at q2
      obtain ⟨m, z1, z2⟩ := b.path i h' j q1 q2
      exact ⟨m, z1, fun k hk => mono _ (sq_lt _ _) (z2 k hk)⟩
    · rename_i hi
      rw [if_neg hi] at q2
      split at q1
      · rename_i hi2
        rw [if_pos hi2] at q2
        cases q1
        cases q2
        exact ⟨n, rfl, fun k hk => mono _ (sq_lt _ _) (hp k hk)⟩
      · rename_i hi2
        rw [if_neg hi2] at q2
        obtain ⟨m, z1, z2⟩ := b.path _ h' j q1 q2
        exact ⟨m, z1, fun k hk => mono _ (sq_lt _ _) (z2 k hk)⟩
end
theorem TB.first {t : SetTable} {l : List Nat} {hs : List Int} (b : TB t l hs) (h : Int) : ∃ n, n < 21 ∧ occ l (sq h n).1 = false ∧ ∀ m, m < n → occ l (sq h m).1 = true := by
  obtain ⟨m, _, h2, h3⟩ := b.free h 0
  have key : ∀ d m : Nat, m ≤ d → m < 21 → occ l (sq h m).1 = false → ∃ n, n < 21 ∧ occ l (sq h n).1 = false ∧ ∀ m, m < n → occ l (sq h m).1 = true := by
    intro d
    induction d with
    | zero => exact fun m hm h1 h2 => ⟨m, h1, h2, fun k hk => absurd hk (by omega)⟩
    | succ d ih =>
      intro m hm h1 h2
      by_cases z : ∃ k, k < m ∧ occ l (sq h k).1 = false
      · obtain ⟨k, hk, e⟩ := z
        exact ih k (by omega) (by omega) e
      · refine ⟨m, h1, h2, fun k hk => ?_⟩
        cases e : occ l (sq h k).1 with
        | true => rfl
        | false => exact absurd ⟨k, hk, e⟩ z
  exact key m m (Nat.le_refl _) (by omega) h3
theorem tb_fresh (f m : Nat) (led : Bool) : TB (fresh f m led) [] [] := ⟨rfl, rfl, rfl, List.mem_singleton.mpr rfl, by decide, rfl, fun i h j e _ => by cases e⟩
end SQ
set_option maxHeartbeats 4000000
namespace SQ
open PySem PySem.SetTable
section
variable {prog : Program} {w : World} {K : Type} [DecidableEq K] {knd : KeyKind prog w K} {A : Around} {E : Value → Shared → Prop} {s : Shared}
theorem noClass_byValue (n : Nat) {v : Value} (h : carriedByValue v = true) : ofAClassStatement n v = pure false := by
  cases v with
  | ref a => simp [carriedByValue] at h
  | _ => unfold ofAClassStatement; rfl
theorem wp_noClass {ks : List K} {a : Addr} {Q : Bool → Shared → Prop} (hk : IsTupleKey knd s.heap ks a) (h : Q false s) : wpAny (model prog w) A (ofAClassStatement 8 (.ref a)) Q E s := by
  have hT := hk.typeIs
  obtain ⟨o, items, n, ho, _, hd, hi⟩ := hk
  unfold ofAClassStatement
  refine wpAny_bind (wpAny_typeOf hT ?_)
  show wpAny _ _ (pure true >>= _) _ _ s
  refine wpAny_bind (wpAny_pure ?_)
  simp only [Bool.not_true, Bool.false_eq_true, if_false]
  refine wpAny_bind (wpAny_seqItems ho hd ?_)
  refine wpAny_bind ?_
  show wpAny _ _ (forIn items _ _) _ _ s
  rw [← Array.forIn_toList]
  refine wpAny_forIn_list _ (fun rest r s' => r.1 = none ∧ s' = s ∧ ∀ v ∈ rest, carriedByValue v = true) _ ?_ ?_ _ _ ⟨rfl, rfl, hi.byValue⟩
  · rintro v rest r s' ⟨hr, rfl, hall⟩
    rw [noClass_byValue _ (hall v List.mem_cons_self)]
    refine wpAny_bind (wpAny_pure ?_)
    simp only [Bool.false_eq_true, if_false]
    exact wpAny_pure ⟨rfl, rfl, fun u hu' => hall u (List.mem_cons_of_mem _ hu')⟩
  · rintro ⟨r1, r2⟩ s' ⟨hr, rfl, _⟩
    simp only at hr
    subst hr
    exact wpAny_pure h
theorem hashBy_byValue (n : Nat) {v : Value} (h : carriedByValue v = true) : ∃ b, hashByValue n v = pure b := by
  cases v with
  | ref a => simp [carriedByValue] at h
  | _ => unfold hashByValue; exact ⟨_, rfl⟩
theorem wp_hashBy {ks : List K} {a : Addr} {Q : Bool → Shared → Prop} (hk : IsTupleKey knd s.heap ks a) (h : ∀ b, Q b s) : wpAny (model prog w) A (hashByValue 8 (.ref a)) Q E s := by
  have hT := hk.typeIs
  obtain ⟨o, items, n, ho, _, hd, hi⟩ := hk
  unfold hashByValue
  refine wpAny_bind (wpAny_specialOf hT F.slot_tuple_hash.lookup ?_)
  show wpAny _ _ (seqItems? (.ref a) >>= _) _ _ s
  refine wpAny_bind (wpAny_seqItems ho hd ?_)
  refine wpAny_bind ?_
  show wpAny _ _ (forIn items _ _) _ _ s
  rw [← Array.forIn_toList]
  refine wpAny_forIn_list _ (fun rest r s' => s' = s ∧ ∀ v ∈ rest, carriedByValue v = true) _ ?_ ?_ _ _ ⟨rfl, hi.byValue⟩
  · rintro v rest r s' ⟨rfl, hall⟩
    obtain ⟨b, e⟩ := hashBy_byValue 7 (hall v List.mem_cons_self)
    rw [e]
    refine wpAny_bind (wpAny_pure ?_)
    cases b with
    | true =>
      simp only [Bool.not_true, Bool.false_eq_true, if_false]
      exact wpAny_pure ⟨rfl, fun u hu' => hall u (List.mem_cons_of_mem _ hu')⟩
    | false =>
      simp only [Bool.not_false, if_true]
      exact wpAny_pure (by first | exact ⟨rfl, fun u hu' => hall u (List.mem_cons_of_mem _ hu')⟩ | (refine wpAny_bind (wpAny_pure ?_); exact wpAny_pure (h _)))
  · rintro ⟨r1, r2⟩ s' ⟨rfl, _⟩
    cases r1 with
    | none => exact wpAny_pure (h _)
    | some b => exact wpAny_pure (h _)
theorem wp_seen {ks : List K} {x : Addr} {ys : List Value} {Q : Bool → Shared → Prop} (hx : IsTupleKey knd s.heap ks x) (hy : ∀ y ∈ ys, ∃ k b, y = .ref b ∧ IsTupleKey knd s.heap k b) (h : Q false s) : wpAny (model prog w) A (searchCouldBeSeen (.ref x) ys) Q E s := by
  unfold searchCouldBeSeen
  refine wpAny_bind ?_
  refine wpAny_forIn_list _ (fun rest r s' => r.1 = none ∧ s' = s ∧ ∀ y ∈ rest, ∃ k b, y = .ref b ∧ IsTupleKey knd s.heap k b) _ ?_ ?_ _ _ ⟨rfl, rfl, hy⟩
  · rintro v rest r s' ⟨hr, rfl, hall⟩
    obtain ⟨k, b, rfl, hb⟩ := hall v List.mem_cons_self
    have ht := fun u hu' => hall u (List.mem_cons_of_mem _ hu')
    dsimp only
    split
    · exact wpAny_pure ⟨rfl, rfl, ht⟩
    · refine wpAny_bind (wpAny_eqIsQuiet_tuple hx ?_)
      simp only [Bool.not_true, Bool.false_eq_true, if_false]
      refine wpAny_bind (wpAny_eqIsQuiet_tuple hb ?_)
      simp only [Bool.not_true, Bool.false_eq_true, if_false]
      refine wpAny_bind (wp_noClass hx ?_)
      simp only [Bool.false_eq_true, if_false]
      refine wpAny_bind (wp_noClass hb ?_)
      simp only [Bool.false_eq_true, if_false]
      exact wpAny_pure ⟨rfl, rfl, ht⟩
  · rintro ⟨r1, r2⟩ s' ⟨hr, rfl, _⟩
    simp only at hr
    subst hr
    exact wpAny_pure h
end
end SQ
set_option maxHeartbeats 4000000
namespace SQ
open PySem PySem.SetTable
section
variable {prog : Program} {w : World} {K : Type} [DecidableEq K] (knd : KeyKind prog w K)
noncomputable def El (h : Heap) (e : Int × Value) (k : List K) : Prop := ∃ b, e.2 = .ref b ∧ IsTupleKey knd h k b ∧ e.1 = tupleKeyHash knd k
structure Raw (h : Heap) (S : Addr) (ks : List (List K)) (o : Obj) (es : Array (Int × Value)) (ep : Nat) (t : SetTable) (l : List Nat) : Prop where
  at_ : h.get? S = some o
  ex : o.ExactSet
  data : o.data = .set es ep t
  tb : TB t l (es.toList.map (·.1))
  el : ∀ e ∈ es.toList, ∃ k, k ∈ ks ∧ El knd h e k
  all : ∀ k ∈ ks, ∃ e ∈ es.toList, El knd h e k
  size : es.size = ks.length
  nd : ks.Nodup
variable {knd} {A : Around} {E : Value → Shared → Prop} {s : Shared} {S : Addr} {ks : List (List K)} {o : Obj} {es : Array (Int × Value)} {ep : Nat} {t : SetTable} {l : List Nat}
theorem Raw.fits {h : Heap} (r : Raw knd h S ks o es ep t l) : t.fits es.size = true := by
  unfold SetTable.fits SetTable.fill
  have h1 : l.length = es.size := by have := r.tb.len; simpa using this
  have h2 := r.tb.few
  rw [r.tb.pl, r.tb.dum, r.tb.mask]
  have h3 : (#[] : Array Nat).size = 0 := rfl
  rw [Bool.and_eq_true, beq_iff_eq, decide_eq_true_eq, h3, List.size_toArray]
  exact ⟨h1, by omega⟩
theorem Raw.get (r : Raw knd s.heap S ks o es ep t l) {i j : Nat} (h : l[i]? = some j) : ∃ e k, es[i]? = some e ∧ k ∈ ks ∧ El knd s.heap e k := by
  have h1 : l.length = es.size := by have := r.tb.len; simpa using this
  have hi : i < es.size := by rw [← h1]; exact (List.getElem?_eq_some_iff.mp h).1
  have e : es[i]? = some es[i] := by simp [hi]
  obtain ⟨k, hk, q⟩ := r.el es[i] (by simp)
  exact ⟨_, k, e, hk, q⟩
noncomputable def hAt (es : Array (Int × Value)) (i : Nat) : Int := (es[i]?.map (·.1)).getD 0
theorem El.same {h : Heap} {e : Int × Value} {k k' : List K} (a : El knd h e k) (b : El knd h e k') : k = k' := by
  obtain ⟨x, e1, q1, _⟩ := a
  obtain ⟨y, e2, q2, _⟩ := b
  rw [e1] at e2
  cases e2
  exact q1.inj q2
theorem wp_search (r : Raw knd s.heap S ks o es ep t l) (hu : A.units < cLine) {k : List K} {b : Addr} (hk : IsTupleKey knd s.heap k b) {N : Nat} (hN : occ l (sq (tupleKeyHash knd k) N).1 = false) (hN2 : ∀ m, m < N → occ l (sq (tupleKeyHash knd k) m).1 = true) {Q : SetFound → Shared → Prop}
    (h1 : k ∈ ks → Q (.there none) s) (h2 : k ∉ ks → Q (.free (sq (tupleKeyHash knd k) N).1 false) s) :
    ∀ (d fuel n : Nat) (stand : Option Probe), N - n = d → n ≤ N → d < fuel → stand.getD (t.probeStart (tupleKeyHash knd k)) = pr (tupleKeyHash knd k) n →
      (∀ m, m < n → ∀ i e, t.slot (sq (tupleKeyHash knd k) m).1 = .live i → es[i]? = some e → ¬ El knd s.heap e k) →
      wpAny (model prog w) A (setSearchFrom S (.ref b) (tupleKeyHash knd k) true fuel stand) Q E s := by
  intro d
  induction d using Nat.strongRecOn with
  | ind d ih =>
    intro fuel n stand hd hn hf hst past
    obtain ⟨fuel, rfl⟩ : ∃ f, fuel = f + 1 := ⟨fuel - 1, by omega⟩
    unfold setSearchFrom
    refine wpAny_bind (wpAny_setState_of r.at_ r.data r.fits ?_)
    dsimp only
    rw [if_neg (by unfold SetTable.gaveWay; rw [r.tb.mask]; decide)]
    conv in SetTable.probe _ _ _ _ => change SetTable.probe t (hAt es) (tupleKeyHash knd k) (stand.getD (t.probeStart (tupleKeyHash knd k)))
    rw [hst]
    obtain ⟨m, q1, q2, q3⟩ := r.tb.probe (hAt es) (tupleKeyHash knd k) n
    have mN : m ≤ N := by
      by_cases z : m ≤ N
      · exact z
      · obtain ⟨i, e1, _⟩ := q2 N hn (by omega)
        have := r.tb.live_occ e1
        rw [hN] at this; cases this
    rcases q3 with ⟨e1, e2⟩ | ⟨i, e1, e2, e3, e4, e5⟩
    · rw [e2]
      have em : m = N := by
        by_cases z : m < N
        · rw [hN2 m z] at e1; cases e1
        · omega
      subst em
      dsimp only
      refine wpAny_pure (h2 fun hm => ?_)
      obtain ⟨e, he, q⟩ := r.all k hm
      obtain ⟨i, hi⟩ := List.getElem?_of_mem he
      have hl : i < l.length := by
        rw [r.tb.len, List.length_map]
        exact (List.getElem?_eq_some_iff.mp hi).1
      have hj : l[i]? = some l[i] := by simp [hl]
      have hh : (es.toList.map (·.1))[i]? = some (tupleKeyHash knd k) := by
        rw [List.getElem?_map, hi]
        obtain ⟨_, _, _, z⟩ := q
        rw [← z]; rfl
      obtain ⟨n0, z1, z2⟩ := r.tb.path i _ _ hh hj
      have lt8 : l[i] < 8 := by rw [← z1]; exact sq_lt _ _
      have oc := r.tb.mem lt8 hj
      have n0N : n0 < m := by
        rcases Nat.lt_trichotomy n0 m with z | z | z
        · exact z
        · rw [← z, z1, oc] at hN; cases hN
        · rw [z2 m z] at hN; cases hN
      obtain ⟨i', s1, s2, s3⟩ := r.tb.live lt8 oc
      have ii := s3 i hj
      subst ii
      rw [← z1] at s1
      have hi' : es[i]? = some e := by rw [← Array.getElem?_toList]; exact hi
      by_cases z : n0 < n
      · exact past n0 z i e s1 hi' q
      · obtain ⟨i2, s4, s5⟩ := q2 n0 (by omega) n0N
        rw [s1] at s4
        cases s4
        refine s5 ?_
        unfold hAt
        rw [hi']
        obtain ⟨_, _, _, z⟩ := q
        exact z
    · rw [e5]
      have mN2 : m < N := by
        rcases Nat.lt_or_ge m N with z | z
        · exact z
        · have : m = N := by omega
          rw [this, hN] at e4; cases e4
      obtain ⟨e, k', g1, g2, g3⟩ := r.get e2
      obtain ⟨b', g4, g5, g6⟩ := id g3
      obtain ⟨eh, ev⟩ := e
      dsimp only at g4 g6
      subst g4
      dsimp only
      have rest : wpAny (model prog w) A (do
          let equal ← holding [Value.ref b'] (eqBool (.ref b') (.ref b))
          let (es', _, t') ← setState S
          if true && equal then return .there none
          let some same := t'.sameMemory t.moves t.mask | unsupported "set.changed-during-lookup:is-the-new-block-at-the-old-address"
          let still ← match (if same then t'.slot (sq (tupleKeyHash knd k) m).1 else .empty) with
            | .live i' => match es'[i']? with
              | some (_, y') => do pure (if ← isSame y' (.ref b') then some i' else none)
              | none => pure none
            | _ => pure none
          match still with
          | none => rule "set.search.anew"; setSearchFrom S (.ref b) (tupleKeyHash knd k) true fuel none
          | some i' => if equal then return .there (some i') else setSearchFrom S (.ref b) (tupleKeyHash knd k) true fuel (some (pr (tupleKeyHash knd k) (m + 1)))) Q E s := by
        refine wpAny_bind (wpAny_holding (wpAny_eqBool_tuple hu g5 hk ?_))
        refine wpAny_bind (wpAny_setState_of r.at_ r.data r.fits ?_)
        dsimp only
        by_cases kk : k' = k
        · rw [decide_eq_true kk]
          exact wpAny_pure (h1 (kk ▸ g2))
        · rw [decide_eq_false kk]
          simp only [Bool.and_false, Bool.false_eq_true, if_false]
          rw [show t.sameMemory t.moves t.mask = some true by unfold SetTable.sameMemory; simp]
          dsimp only
          rw [if_pos rfl, e1]
          dsimp only
          rw [g1]
          dsimp only
          refine wpAny_bind ?_
          have hs : isSame (Value.ref b') (Value.ref b') = pure true := by unfold isSame; simp
          rw [hs]
          refine wpAny_bind (wpAny_pure (wpAny_pure ?_))
          show wpAny _ _ (setSearchFrom S (.ref b) (tupleKeyHash knd k) true fuel (some (pr (tupleKeyHash knd k) (m + 1)))) Q E s
          refine ih (N - (m + 1)) (by omega) fuel (m + 1) _ rfl (by omega) (by omega) rfl fun m2 hm2 i2 e2' f1 f2 f3 => ?_
          by_cases z : m2 < n
          · exact past m2 z i2 e2' f1 f2 f3
          · by_cases z2 : m2 < m
            · obtain ⟨i3, s4, s5⟩ := q2 m2 (by omega) z2
              rw [f1] at s4
              cases s4
              refine s5 ?_
              unfold hAt
              rw [f2]
              obtain ⟨_, _, _, z⟩ := f3
              exact z
            · have : m2 = m := by omega
              subst this
              rw [e1] at f1
              cases f1
              rw [g1] at f2
              cases f2
              exact kk (g3.same f3)
      cases t.led with
      | true =>
        simp only [Bool.not_true, Bool.false_eq_true, if_false]
        rw [g1]
        exact rest
      | false =>
        simp only [Bool.not_false, if_true]
        refine wpAny_bind (wp_seen hk (fun y hy => ?_) ?_)
        · obtain ⟨e, he, rfl⟩ := List.mem_map.mp hy
          have he' : e ∈ es.toList := by
            have := (Array.mem_filter.mp (Array.mem_toList_iff.mp he)).1
            exact Array.mem_toList_iff.mpr this
          obtain ⟨k2, _, b2, u1, u2, _⟩ := r.el e he'
          exact ⟨k2, b2, u1, u2⟩
        · simp only [Bool.false_eq_true, if_false]
          rw [g1]
          exact rest
end
end SQ
set_option maxHeartbeats 4000000
namespace SQ
open PySem PySem.SetTable
section
variable {prog : Program} {w : World} {K : Type} [DecidableEq K] (knd : KeyKind prog w K)
noncomputable def SetH (h : Heap) (S : Addr) (ks : List (List K)) : Prop := ∃ o es ep t l, Raw knd h S ks o es ep t l
variable {knd} {A : Around} {E : Value → Shared → Prop} {s : Shared} {S : Addr} {ks : List (List K)}
theorem TB.noplain {t : SetTable} {l : List Nat} {hs : List Int} (b : TB t l hs) : TB { t with plain := false } l hs := ⟨b.mask, b.dum, b.pl, b.row, b.few, b.len, b.path⟩
theorem Raw.ne {o : Obj} {es : Array (Int × Value)} {ep : Nat} {t : SetTable} {l : List Nat} {h : Heap} (r : Raw knd h S ks o es ep t l) {k : List K} {b : Addr} (hk : IsTupleKey knd h k b) : b ≠ S := fun z => by
  obtain ⟨o', items, n, ho, _, hd, _⟩ := hk
  rw [z, r.at_] at ho
  cases ho
  rw [r.data] at hd
  cases hd
theorem key_keep {h h' : Heap} {k : List K} {b : Addr} (hk : IsTupleKey knd h k b) (hs : ∀ o, h.get? b = some o → h'.get? b = some o) : IsTupleKey knd h' k b := by
  obtain ⟨o', items, n, ho, hc, hd, hi⟩ := hk
  exact ⟨o', items, n, hs _ ho, hc, hd, hi⟩
noncomputable def addK (ks : List (List K)) (k : List K) : List (List K) := if k ∈ ks then ks else ks ++ [k]
theorem wp_add (r : SetH knd s.heap S ks) (hu : A.units < cLine) (few : ks.length < 4) {k : List K} {b : Addr} (hk : IsTupleKey knd s.heap k b) {Q : Bool → Shared → Prop}
    (h : ∀ h' r, Heap.SameBut S s.heap h' → SetH knd h' S (addK ks k) → Q r { s with heap := h' }) :
    wpAny (model prog w) A (setAddHashed S (.ref b) (tupleKeyHash knd k)) Q E s := by
  obtain ⟨o, es, ep, t, l, r⟩ := r
  unfold setAddHashed
  refine wpAny_holding ?_
  unfold setAddHashedIn
  refine wpAny_bind (wpAny_setState_of r.at_ r.data r.fits ?_)
  dsimp only
  rw [if_neg (by unfold byScan Value.scannable; simp)]
  obtain ⟨N, n1, n2, n3⟩ := r.tb.first (tupleKeyHash knd k)
  refine wpAny_bind ?_
  unfold setSearch
  refine wp_search r hu hk n2 n3 (fun hm => ?_) (fun hm => ?_) N 100000 0 none (by omega) (Nat.zero_le _) (by omega) (r.tb.start _) (fun m hm => absurd hm (by omega))
  · dsimp only
    have hq := h s.heap false (Heap.SameBut.refl S s.heap) ⟨o, es, ep, t, l, by unfold addK; rw [if_pos hm]; exact r⟩
    refine wpAny_pure ?_
    have e : s = { s with heap := s.heap } := by cases s; rfl
    rw [e]; exact hq
  · dsimp only
    refine wpAny_bind (wpAny_setState_of r.at_ r.data r.fits ?_)
    dsimp only
    have hlen : l.length = es.size := by have := r.tb.len; simpa using this
    obtain ⟨p1, p2⟩ := r.tb.put (by rw [hlen, r.size]; exact few) n2 n3
    rw [List.length_map, Array.length_toList] at p1
    generalize hP : t.put (sq (tupleKeyHash knd k) N).1 = P at p1 p2 ⊢
    obtain ⟨t1, p⟩ := P
    dsimp only at p1 p2 ⊢
    have key : ∀ (t2 : SetTable), TB t2 (l.take p ++ (sq (tupleKeyHash knd k) N).1 :: l.drop p) ((es.toList.map (·.1)).take p ++ tupleKeyHash knd k :: (es.toList.map (·.1)).drop p) →
        wpAny (model prog w) A (do
          storeSet S (insertAt es p (tupleKeyHash knd k, Value.ref b)) t2
          if (!false && t2.tooFull) = true then setRelay S (SetTable.grown (es.size + 1))
          return true) Q E s := fun t2 b2 => by
      have el : (insertAt es p (tupleKeyHash knd k, Value.ref b)).toList = es.toList.take p ++ (tupleKeyHash knd k, Value.ref b) :: es.toList.drop p := ins_list p1
      have esz : (insertAt es p (tupleKeyHash knd k, Value.ref b)).size = ks.length + 1 := by
        rw [← Array.length_toList, el, List.length_append, List.length_cons, List.length_take, List.length_drop, Array.length_toList, ← r.size]
        omega
      have hz : (insertAt es p (tupleKeyHash knd k, Value.ref b)).size ≤ sizeLine := by
        rw [esz]
        have : (100 : Nat) ≤ sizeLine := by decide
        omega
      refine wpAny_bind (wpAny_storeSet_of r.at_ r.data ?_ hz)
      rw [if_neg ?_]
      · refine wpAny_pure ?_
        have hg : (s.heap.update S (Obj.putSet (insertAt es p (tupleKeyHash knd k, Value.ref b)) t2)).get? S = some { o with data := .set (insertAt es p (tupleKeyHash knd k, Value.ref b)) (ep + 1) t2 } := by
          have := Heap.get?_update_self (Obj.putSet (insertAt es p (tupleKeyHash knd k, Value.ref b)) t2) r.at_ (by rw [putSet_of _ t2 r.data]; rfl)
          rw [putSet_of _ t2 r.data] at this; exact this
        have sb := Heap.SameBut.update s.heap S (Obj.putSet (insertAt es p (tupleKeyHash knd k, Value.ref b)) t2)
        have kp : ∀ {k' : List K} {b' : Addr}, IsTupleKey knd s.heap k' b' → IsTupleKey knd (s.heap.update S (Obj.putSet (insertAt es p (tupleKeyHash knd k, Value.ref b)) t2)) k' b' := fun {k' b'} q => key_keep q fun o' e' => by rw [sb.2 b' (r.ne q)]; exact e'
        refine h _ _ sb ⟨_, _, ep + 1, t2, l.take p ++ (sq (tupleKeyHash knd k) N).1 :: l.drop p, hg, r.ex, rfl, ?_, fun e he => ?_, fun k' hk' => ?_, ?_, ?_⟩
        · rw [el, List.map_append, List.map_cons, List.map_take, List.map_drop]; exact b2
        · rw [el] at he
          unfold addK
          rw [if_neg hm]
          rcases List.mem_append.mp he with he | he
          · obtain ⟨k', h1, b', h2, h3, h4⟩ := r.el e (List.mem_of_mem_take he)
            exact ⟨k', List.mem_append_left _ h1, b', h2, kp h3, h4⟩
          · rcases List.mem_cons.mp he with rfl | he
            · exact ⟨k, List.mem_append_right _ (List.mem_singleton.mpr rfl), b, rfl, kp hk, rfl⟩
            · obtain ⟨k', h1, b', h2, h3, h4⟩ := r.el e (List.mem_of_mem_drop he)
              exact ⟨k', List.mem_append_left _ h1, b', h2, kp h3, h4⟩
        · unfold addK at hk'
          rw [if_neg hm] at hk'
          rw [el]
          rcases List.mem_append.mp hk' with hk' | hk'
          · obtain ⟨e, h1, b', h2, h3, h4⟩ := r.all k' hk'
            refine ⟨e, ?_, b', h2, kp h3, h4⟩
            rw [← List.take_append_drop p es.toList] at h1
            rcases List.mem_append.mp h1 with h1 | h1
            · exact List.mem_append_left _ h1
            · exact List.mem_append_right _ (List.mem_cons_of_mem _ h1)
          · rw [List.mem_singleton.mp hk']
            exact ⟨_, List.mem_append_right _ List.mem_cons_self, b, rfl, kp hk, rfl⟩
        · rw [esz]
          unfold addK
          rw [if_neg hm, List.length_append]
          rfl
        · unfold addK
          rw [if_neg hm]
          exact List.nodup_append.mpr ⟨r.nd, List.nodup_cons.mpr ⟨List.not_mem_nil, List.nodup_nil⟩, fun a ha c hc z => by
            rw [List.mem_singleton.mp hc] at z
            rw [z] at ha
            exact hm ha⟩
      · unfold SetTable.tooFull SetTable.fill
        rw [b2.pl, b2.dum, b2.mask]
        have := b2.few
        have h3 : (#[] : Array Nat).size = 0 := rfl
        rw [List.size_toArray, h3]
        simp only [Bool.not_false, Bool.true_and, decide_eq_true_eq]
        omega
    split
    · refine wpAny_bind (wp_hashBy hk fun bv => ?_)
      cases bv with
      | true => exact key t1 p2
      | false => exact key _ p2.noplain
    · refine wpAny_bind (wpAny_pure ?_)
      exact key t1 p2
end
end SQ
set_option maxHeartbeats 4000000
namespace SQ
open PySem PySem.SetTable PyProof.Rows
section
variable {prog : Program} {w : World} {K : Type} [DecidableEq K] {knd : KeyKind prog w K} {A : Around} {E : Value → Shared → Prop} {s : Shared} {S : Addr} {ks : List (List K)}
theorem SetH.keepT {h h' : Heap} (r : SetH knd h S ks) (h1 : ∀ o, h.get? S = some o → h'.get? S = some o) (hs : ∀ b o, o.cls = .type "tuple" → h.get? b = some o → h'.get? b = some o) : SetH knd h' S ks := by
  have kk : ∀ {k : List K} {b : Addr}, IsTupleKey knd h k b → IsTupleKey knd h' k b := fun {k b} q => by
    obtain ⟨o', items, n, ho, hc, hd, hi⟩ := q
    exact ⟨o', items, n, hs _ _ hc ho, hc, hd, hi⟩
  obtain ⟨o, es, ep, t, l, r⟩ := r
  refine ⟨o, es, ep, t, l, h1 _ r.at_, r.ex, r.data, r.tb, fun e he => ?_, fun k hk => ?_, r.size, r.nd⟩
  · obtain ⟨k, h1, b, h2, h3, h4⟩ := r.el e he
    exact ⟨k, h1, b, h2, kk h3, h4⟩
  · obtain ⟨e, h1, b, h2, h3, h4⟩ := r.all k hk
    exact ⟨e, h1, b, h2, kk h3, h4⟩
noncomputable def firstK (val : Nat → List K) (i : Nat) : List (List K) := ((List.range i).map val).foldl addK []
theorem firstK_succ (val : Nat → List K) (i : Nat) : firstK val (i + 1) = addK (firstK val i) (val i) := by
  unfold firstK
  rw [List.range_succ, List.map_append, List.foldl_append]
  rfl
theorem addK_len (ks : List (List K)) (k : List K) : (addK ks k).length ≤ ks.length + 1 := by
  unfold addK
  split
  · omega
  · rw [List.length_append]; exact Nat.le_refl _
theorem firstK_len (val : Nat → List K) : ∀ i, (firstK val i).length ≤ i
  | 0 => Nat.le_refl _
  | i + 1 => by rw [firstK_succ]; exact Nat.le_trans (addK_len _ _) (by have := firstK_len val i; omega)
section
variable {R : Result → Shared → Prop} {I : Addr} {fp wr : List Addr} {G : Array GenState → Array GenState → Prop} {n : Nat} {P : Nat → Value → Prop} {St : Nat → Shared → Prop}
theorem loopT (W : WalksS prog w A.in1 I fp wr G n P St) (hu : A.in1.units < cLine) (S : Addr) (hSf : S ∉ fp) (hI : ∀ i s, St i s → ∀ b ∈ wr, ∀ o, s.heap.get? b = some o → o.cls ≠ .type "tuple")
    (val : Nat → List K) (h0 : Heap) (hval : ∀ i v, P i v → ∃ b, v = .ref b ∧ b ∉ S :: wr ∧ IsTupleKey knd h0 (val i) b) (hb : n ≤ 4) :
    ∀ (k i : Nat) (s : Shared), n - i = k → i ≤ n → St i s → (∀ b o, b ∉ S :: wr → h0.get? b = some o → s.heap.get? b = some o) →
      SetH knd s.heap S (firstK val i) →
      (∀ s', Moved (S :: wr) G s s' → SetH knd s'.heap S (firstK val n) → R (.ok (.ret .none)) s') →
      codeAny (model prog w) A (.builtin "set.update.loop" ⟨[.ref S, .ref I], []⟩) R s := by
  have hSw : S ∉ wr := fun h => hSf (W.sub _ h)
  have hsub : ∀ b ∈ wr, b ∈ S :: wr := fun b hb => List.mem_cons_of_mem _ hb
  have kp : ∀ {i : Nat} {s s' : Shared} {ks : List (List K)}, St i s → Moved wr G s s' → SetH knd s.heap S ks → SetH knd s'.heap S ks := fun {i s s' ks} st hm r => r.keepT (fun o e => hm.heap S o hSw e) fun b o hc e => by
    by_cases z : b ∈ wr
    · exact absurd hc (hI i s st b z o e)
    · exact hm.heap b o z e
  intro k
  induction k with
  | zero =>
    intro i s hk hi hst h0s hS hR
    have hin : i = n := by omega
    subst hin
    refine codeAny_builtin PyProof.Rows.F.entry_set_update_loop ?_
    rw [Around.under_plainId PyProof.Rows.F.plain_set_update_loop _]
    show wpAny _ A.in1 (pyNext (.ref I) >>= _) _ _ s
    refine wpAny_bind (W.done s _ _ hst fun s' hm => ?_)
    show wpAny _ A.in1 (ret Value.none) _ _ s'
    exact wpAny_pure (hR s' (hm.mono hsub) (kp hst hm hS))
  | succ k ih =>
    intro i s hk hi hst h0s hS hR
    have hlt : i < n := by omega
    refine codeAny_builtin PyProof.Rows.F.entry_set_update_loop ?_
    rw [Around.under_plainId PyProof.Rows.F.plain_set_update_loop _]
    show wpAny _ A.in1 (pyNext (.ref I) >>= _) _ _ s
    refine wpAny_bind (W.item i s _ _ hlt hst fun v s' hP hst' hm => ?_)
    obtain ⟨b, rfl, hbn, hkey⟩ := hval i v hP
    have hS' := kp hst hm hS
    have hb' : b ∉ wr := fun z => hbn (hsub b z)
    have key' : IsTupleKey knd s'.heap (val i) b := key_keep hkey fun o e => hm.heap b o hb' (h0s b o hbn e)
    show wpAny _ A.in1 (holding [Value.ref b] (setAdd S (.ref b)) >>= _) _ _ s'
    refine wpAny_bind (wpAny_holding ?_)
    unfold setAdd
    refine wpAny_holding ?_
    refine wpAny_bind (wpAny_pyHash_tuple hu key' ?_)
    refine wp_add (s := { s' with toks := s'.toks + ((val i).length + 1) }) hS' hu (by have := firstK_len val i; omega) key' fun h' r hsb hS2 => ?_
    have hSi : SetH knd h' S (firstK val (i + 1)) := by rw [firstK_succ]; exact hS2
    refine wpAny_pure ⟨plainId_quiet PyProof.Rows.F.plain_set_update_loop _, ih (i + 1) _ (by omega) hlt (W.frame _ s' _ _ hst' (Nat.le_add_right _ _) fun b hb o e => ?_) (fun b o hb e => ?_) hSi fun s'' hm'' hS'' => ?_⟩
    · rw [hsb.2 b (fun h : b = S => hSf (by rw [← h]; exact hb))]; exact e
    · show h'.get? b = some o
      rw [hsb.2 b (fun h : b = S => hb (by rw [h]; exact List.mem_cons_self))]
      exact hm.heap b o (fun z => hb (hsub b z)) (h0s b o hb e)
    · refine hR s'' (Moved.trans W.gtrans ((hm.mono hsub).then_heap (Nat.le_add_right _ _) fun b o hb e => ?_) hm'') hS''
      rw [hsb.2 b (fun h : b = S => hb (by rw [h]; exact List.mem_cons_self))]; exact e
end
end
end SQ
set_option maxHeartbeats 4000000
namespace SQ
open PySem PySem.SetTable PyProof.Rows PySem.Spec
section
variable {prog : Program} {w : World} {K : Type} [DecidableEq K] {knd : KeyKind prog w K} {A : Around} {E : Value → Shared → Prop} {s : Shared}
theorem setH_fresh {h : Heap} {S : Addr} {led : Bool} (e : h.get? S = some { cls := .type "set", dict := none, data := .set #[] 0 (.fresh 0 0 led) }) : SetH knd h S [] :=
  ⟨_, #[], 0, _, [], e, ⟨rfl, rfl, rfl⟩, rfl, tb_fresh 0 0 led, (fun e he => by cases he), (fun k hk => by cases hk), rfl, List.nodup_nil⟩
theorem call_setT {l : Addr} {items : Array Value} {val : Nat → List K} {Q : Value → Shared → Prop}
    (hh : A.handled = none) (hu : A.units + 8 < cLine) (hl : s.heap.IsList l items) (hi : ∀ i v, items[i]? = some v → ∃ b, v = .ref b ∧ IsTupleKey knd s.heap (val i) b) (hb : items.size ≤ 4)
    (h : ∀ (h' : Heap) (tk : Nat), SetH knd h' s.heap.objs.size (firstK val items.size) →
      (∀ b o, b < s.heap.objs.size → s.heap.get? b = some o → h'.get? b = some o) → s.heap.objs.size < h'.objs.size → Q (.ref s.heap.objs.size) { s with heap := h', toks := tk }) :
    wpAny (model prog w) A (call (.type "set") [.ref l]) Q E s := by
  obtain ⟨c, tl, hmro⟩ := PySem.F.called_set.mro
  have hmade := PySem.F.called_set.made
  have hsub := PySem.F.called_set.sub
  refine wpAny_call (codeAny_of_tree ?_)
  show wpAny _ _ (callAny (.type "set") _) _ _ _
  refine wpAny_pure ⟨Code.quiet_builtin _ (by decide +kernel), codeAny_builtin PySem.F.entry_type_call ?_⟩
  rw [Around.under_plain (weight_type_call_type "set" [.ref l] []) rfl]
  have h1 := PySem.F.called_set.notType
  have h2 := PySem.F.called_set.canCreate
  have hct := PySem.F.typeCall_set_1 (.ref l)
  repeat (any_goals (first | assumption | wp_step))
  refine codeAny_mono (PySem.code_set_new_1 (.ref l) (E := E) (Q₁ := fun obj s₁ => ∃ led : Bool, obj = .ref s.heap.objs.size ∧ s₁ = { s with heap := s.heap.push { cls := .type "set", dict := none, data := .set #[] 0 (.fresh 0 0 led) } }) fun led => ⟨led, rfl, rfl⟩) fun r s₁ hr => ?_
  cases r with
  | error e => exact hr
  | ok fl =>
    cases fl with
    | ret obj =>
      obtain ⟨led, rfl, rfl⟩ := hr
      have hS : (s.heap.push { cls := .type "set", dict := none, data := .set #[] 0 (.fresh 0 0 led) }).get? s.heap.objs.size = some { cls := .type "set", dict := none, data := .set #[] 0 (.fresh 0 0 led) } := Heap.get?_push_size _ rfl
      have hT : Shared.TypeIs { s with heap := s.heap.push { cls := .type "set", dict := none, data := .set #[] 0 (.fresh 0 0 led) } } (.ref s.heap.objs.size) "set" := ⟨_, hS, rfl⟩
      have hli := PySem.F.called_set.init.lookup
      have hbi := PySem.F.called_set.init.bind (.ref s.heap.objs.size)
      repeat (any_goals (first | assumption | wp_step))
      refine codeAny_mono (codeAny_call_builtin (R := wants (fun r s₂ => r = .none ∧ ∃ h' tk, s₂ = { s with heap := h', toks := tk } ∧
          SetH knd h' s.heap.objs.size (firstK val items.size) ∧
          (∀ b o, b < s.heap.objs.size → s.heap.get? b = some o → h'.get? b = some o)) E) PySem.F.called_set.init.plain PySem.F.entry_set_init (PySem.check_set_init_1 hT ?_)) fun r₂ s₂ hr₂ => ?_
      · obtain ⟨ol, hol, hcl, nl, hdl⟩ := hl
        obtain ⟨ocls, odict, odata, oslots⟩ := ol
        simp only at hcl hdl
        subst hcl; subst hdl
        have hol' : (s.heap.push { cls := .type "set", dict := none, data := .set #[] 0 (.fresh 0 0 led) }).get? l = some { cls := .type "list", dict := odict, data := .seq items nl, slots := oslots } := Heap.get?_push_of_some _ hol
        have hsls := PySem.F.sub_list_set
        have hslf := PySem.F.sub_list_frozenset
        have hne : (Value.type "list" == Value.type "dict") = false := by decide
        have hl1 : (s.heap.push { cls := .type "set", dict := none, data := .set #[] 0 (.fresh 0 0 led) }).IsList l items := ⟨_, hol', rfl, nl, rfl⟩
        unfold Builtin.«set.__init__» noKeywords Builtin.Frozenset.updateFrom
        generalize hPI : pyIter = PI
        wp_walk
        subst hPI
        refine wpAny_pyIter_list hl1 ?_
        refine wpAny_bind (wpAny_runValue ?_)
        have hlS : l < s.heap.objs.size := Heap.lt_size hol
        have hh3 : A.in1.in1.in1.handled = none := by simp [hh]
        have hneI : l ≠ (s.heap.push { cls := .type "set", dict := none, data := .set #[] 0 (.fresh 0 0 led) }).objs.size := by
          rw [Heap.size_push]; exact Nat.ne_of_lt (Nat.lt_succ_of_lt hlS)
        have hSf : s.heap.objs.size ∉ [(s.heap.push { cls := .type "set", dict := none, data := .set #[] 0 (.fresh 0 0 led) }).objs.size, l] := by
          rw [Heap.size_push]; simp only [List.mem_cons, List.mem_singleton, List.not_mem_nil, or_false, not_or]
          exact ⟨Nat.ne_of_lt (Nat.lt_succ_self _), Nat.ne_of_gt hlS⟩
        refine loopT (knd := knd) ((Walks.list hh3 _ l hneI items).toS) (by show A.units + 1 + 1 + 1 < cLine; omega) s.heap.objs.size
          hSf (fun i s st b hb o e => ?hI) val s.heap (fun i v hv => ?hv) hb (items.size - 0) 0 _ (by omega) (Nat.zero_le _)
          ⟨⟨_, Heap.get?_push_size _ rfl, rfl, rfl⟩, (hl1.push _)⟩ (fun b o hb e => Heap.get?_push_of_some _ (Heap.get?_push_of_some _ e)) ?hS0 ?hR
        case hI =>
          obtain ⟨⟨o', g1, g2, g3⟩, _⟩ := st
          rw [List.mem_singleton.mp hb, g1] at e
          cases e
          rw [g2]
          decide
        case hv =>
          obtain ⟨b, rfl, hk⟩ := hi i v hv
          refine ⟨b, rfl, ?_, hk⟩
          obtain ⟨o', _, _, ho, _⟩ := hk
          have lt := Heap.lt_size ho
          rw [Heap.size_push]
          simp only [List.mem_cons, List.mem_singleton, List.not_mem_nil, or_false, not_or]
          exact ⟨Nat.ne_of_lt lt, Nat.ne_of_lt (Nat.lt_succ_of_lt lt)⟩
        case hS0 => exact setH_fresh (Heap.get?_push_of_some _ hS)
        case hR =>
          intro s' hm hS'
          obtain ⟨h', g', d', tk', os'⟩ := s'
          have eg : g' = s.gens := hm.gens
          have ed : d' = s.drawn := hm.drawn
          have eo : os' = s.os := hm.os
          subst eg; subst ed; subst eo
          show wpAny _ _ _ _ _ _
          refine wpAny_pure ?_
          show wpAny _ _ (ret Value.none) _ _ _
          refine wpAny_pure ⟨rfl, h', tk', rfl, hS', fun b o hb e => ?_⟩
          have hb1 : b ≠ s.heap.objs.size := Nat.ne_of_lt hb
          have hb2 : b ≠ (s.heap.push { cls := .type "set", dict := none, data := .set #[] 0 (.fresh 0 0 led) }).objs.size := by
            rw [Heap.size_push]; exact Nat.ne_of_lt (Nat.lt_succ_of_lt hb)
          exact hm.heap b o (by simp only [List.mem_cons, List.mem_singleton, List.not_mem_nil, or_false, not_or]; exact ⟨hb1, hb2⟩) (Heap.get?_push_of_some _ (Heap.get?_push_of_some _ e))
      · cases r₂ with
        | error e => exact hr₂
        | ok fl₂ =>
          cases fl₂ with
          | ret r =>
            obtain ⟨rfl, h', tk, rfl, hS', hk'⟩ := hr₂
            repeat (any_goals (first | assumption | wp_step))
            exact h _ _ hS' hk' (by obtain ⟨o, _, _, _, _, r⟩ := hS'; exact Heap.lt_size r.at_)
          | _ => exact hr₂.elim
    | _ => exact hr.elim
end
end SQ
set_option maxHeartbeats 4000000
namespace L2
open PySem PySem.Spec PyProof.Rows SQ
noncomputable def SzSet (a : Addr) (n : Nat) (h : Heap) : Prop := ∃ o es ep t, h.get? a = some o ∧ o.ExactSet ∧ o.data = .set es ep t ∧ t.fits es.size = true ∧ es.size = n
theorem SzSet.of {P : Program} {w : World} {h : Heap} {a : Addr} {ks : List (List Key)} (r : SetH (mixKind P w) h a ks) : SzSet a ks.length h := by
  obtain ⟨o, es, ep, t, l, r⟩ := r
  exact ⟨o, es, ep, t, r.at_, r.ex, r.data, r.fits, r.size⟩
section
variable {X : Cx}
theorem call_set_of (hc : X.calm = true) (hu : X.A.units + 64 < cLine) : CallR X (.type "set") (fun xs H Q => ∃ p ys, ∃ ks : Nat → List Key, xs = [.ref p] ∧ SqL X.K H p ys ∧ ys.length ≤ 4 ∧ (∀ i y, ys[i]? = some y → ∃ b, y = .ref b ∧ H b = some (.tup ((ks i).map kV))) ∧
    ∀ l, H l = none → Q (.ref l) (upd H l (.ext (SzSet l (firstK ks ys.length).length)))) := by
  intro pins s σ H xs us Q I r h
  obtain ⟨p, ys, ks, rfl, hq, h4, hk, q⟩ := h
  obtain ⟨u, rfl, rx⟩ := vals1 r
  cases rx
  obtain ⟨its, r', pl, hz⟩ := I.list hq
  have hlen := r'.length
  refine call_setT (knd := mixKind X.prog X.w) (val := ks) (I.ok.hd hc) (by omega) pl.isList (fun i v hv => ?_) (by simp only [List.size_toArray] <;> omega) fun h' tk hS kp lt => ?_
  · have hv' : its[i]? = some v := by simpa using hv
    have hi : i < ys.length := by rw [hlen]; exact (List.getElem?_eq_some_iff.mp hv').1
    have hy : ys[i]? = some ys[i] := by simp [hi]
    obtain ⟨b, e1, e2⟩ := hk i _ hy
    obtain ⟨v', hv2, rel⟩ := r'.get hy
    rw [hv'] at hv2
    cases hv2
    rw [e1] at rel
    cases rel
    exact ⟨b, rfl, key_of I.hok e2⟩
  · have hsz : its.toArray.size = ys.length := by simp only [List.size_toArray]; omega
    rw [hsz] at hS
    have sz := SzSet.of hS
    refine ⟨.ref s.heap.objs.size, _, I.laid (t' := tk) (fun b o e => kp b o (Heap.lt_size e) e) (Nat.le_refl _) (show ObjOk X.prog X.w _ h' _ (.ext (SzSet s.heap.objs.size (firstK ks ys.length).length)) from ⟨sz, ?_, fun h1 h2 f k => ?_⟩), rfl, q _ (I.hok.fresh (Nat.le_refl _))⟩
    · obtain ⟨o, _, _, _, e, _⟩ := sz
      exact ⟨o, e⟩
    · obtain ⟨o, es, ep, t, e, rest⟩ := f
      exact ⟨o, es, ep, t, k _ e, rest⟩
theorem call_len_set : CallR X (.builtin "len") (fun xs H Q => ∃ p n, xs = [.ref p] ∧ H p = some (.ext (SzSet p n)) ∧ n ≤ 4 ∧ Q (.int n) H) := by
  intro pins s σ H xs us Q I r h
  obtain ⟨p, n, rfl, hp, h4, q⟩ := h
  obtain ⟨u, rfl, rx⟩ := vals1 r
  cases rx
  obtain ⟨⟨o, es, ep, t, e1, e2, e3, e4, e5⟩, _⟩ := (show ObjOk X.prog X.w H s.heap p (.ext (SzSet p n)) from I.hok p _ hp)
  exact PySem.call_len_set e1 e2 e3 e4 (by omega) ⟨.int n, H, I.tok _, ⟨s.toks + 1, by rw [e5]⟩, q⟩
end
end L2
set_option maxHeartbeats 4000000
namespace DL
open PySem PySem.Spec L2 PyProof.Rows SQ
noncomputable def gLenSet : D → Option D
  | .lst ds => if ds.length ≤ 4 then (ds.mapM asKeys).bind fun ks => some (.int (firstK (fun i => ks.getD i []) ds.length).length) else none
  | _ => none
section
variable {X : Cx} {K : PySem.W.Frag} {e : Expr} {f : Fe} {pos : Pos}
theorem ite_ok' {α : Type} {p : Prop} [Decidable p] {a : Option α} {x : α} (h : (if p then a else none) = some x) : p ∧ a = some x := by
  split at h
  · exact ⟨‹p›, h⟩
  · cases h
theorem mapM_get {α β : Type} {g : α → Option β} : ∀ {xs : List α} {ys : List β}, xs.mapM g = some ys → ∀ (i : Nat) (x : α), xs[i]? = some x → ∃ y, g x = some y ∧ ys[i]? = some y
  | [], _, _, i, x, h => by simp at h
  | a :: xs, ys, e, i, x, h => by
    rw [List.mapM_cons] at e
    cases q : g a with
    | none => rw [q] at e; cases e
    | some b =>
      cases q2 : xs.mapM g with
      | none => rw [q, q2] at e; cases e
      | some bs =>
        rw [q, q2] at e
        cases e
        cases i with
        | zero => cases h; exact ⟨b, q, rfl⟩
        | succ i => exact mapM_get q2 i x h
theorem boot_set : bootBuiltins "set" = some (.type "set") := by kernel_rfl
theorem pf_lenSet {p p2 pos2 : Pos} (hc : X.calm = true) (hu : X.A.units + 64 < cLine) (hg : Gl X "len") (hm : X.mg "len" = none) (hg2 : Gl X "set") (hm2 : X.mg "set" = none) (he : PF X K e f)
    (h1 : starEach [e] X.env = [(false, eval e X.env)] := by rfl)
    (h2 : starEach [Expr.Call (.Name "set" p2) [e] [] pos2] X.env = [(false, eval (Expr.Call (.Name "set" p2) [e] [] pos2) X.env)] := by rfl) :
    PF X K (.Call (.Name "len" p) [.Call (.Name "set" p2) [e] [] pos2] [] pos) (f1 gLenSet f) := fun hK => by
  refine PE.imp (pe_callB call_len_set hg hm boot_len (pa_cons (pe_callTy (call_set_of hc hu) hg2 hm2 boot_set (pa_cons (he hK) pa_nil h1) (by decide) (by decide) h1 rfl) pa_nil h2) (by decide) (by decide) h2 rfl) fun σ H Q ⟨ρ, Hs, d, st, ef, k⟩ => ?_
  obtain ⟨d', e1, e2⟩ := bind1 ef
  refine ⟨ρ, Hs, d', st, e1, fun v H' Hs' g r => ?_⟩
  unfold gLenSet at e2
  split at e2
  case h_2 => cases e2
  rename_i ds
  obtain ⟨h4, e2⟩ := ite_ok' e2
  obtain ⟨ks, ek, e2⟩ := bind1 e2
  cases e2
  cases r with
  | @lst a vs _ ha rs =>
    have hl := rs.length
    refine ⟨a, vs, fun i => ks.getD i [], rfl, SqL.of (g.sub _ _ ha), by omega, fun i y hy => ?_, fun l hl' => ?_⟩
    · obtain ⟨d, hd, rd⟩ := rs.getV hy
      obtain ⟨kk, q1, q2⟩ := mapM_get ek i d hd
      cases rd with
      | @tup b xs es hb rb =>
        have hx := keys_rep rb (show es.mapM asKey = some kk from q1)
        subst hx
        refine ⟨b, rfl, ?_⟩
        show H' b = some (.tup ((ks.getD i []).map kV))
        rw [List.getD_eq_getElem?_getD, q2]
        exact g.sub _ _ hb
      | _ => cases q1
    · refine ⟨l, _, rfl, upd_same, ?_, ?_⟩
      · have := firstK_len (fun i => ks.getD i []) vs.length
        omega
      · rw [← hl]
        refine k _ _ Hs' ?_ (.int _)
        have nl : Hs' l = none := g.sub.free hl'
        exact ⟨g.hs, fun b o e => by rw [upd_ne (fun z => by rw [z] at e; rw [g.h _ _ e] at hl'; cases hl')]; exact g.h b o e, sm_updR g.sub nl, g.new⟩
end
end DL
set_option maxHeartbeats 4000000
namespace SQ
open PySem PySem.Spec PyProof.Rows
section
variable {prog : Program} {w : World} {A : Around} {E : Value → Shared → Prop} {s : Shared} {l : Addr} {i j : Int} {t u : Tok}
theorem pair_iter {Q : Value → Shared → Prop} (hl : s.heap.IsTuple l (intItems #[(i, t), (j, u)]))
    (h : ∀ s₂ : Shared, s₂ = { s with heap := s.heap.push { cls := .type "tuple_iterator", data := .fields #[.ref l, .int 0 0] } } →
      (s₂.heap.IsTupleIter s.heap.objs.size l 0 ∧ s₂.heap.IsTuple l (intItems #[(i, t), (j, u)])) → (∀ b ∈ [s.heap.objs.size, l], b < s₂.heap.objs.size) → l ≠ s.heap.objs.size → Q (.ref s.heap.objs.size) s₂) :
    wpAny (model prog w) A (pyIter (.ref l)) Q E s := by
  have hlt : l < s.heap.objs.size := by obtain ⟨_, e, _⟩ := hl; exact Heap.lt_size e
  refine wpAny_pyIter_tuple hl (h _ rfl ⟨⟨_, Heap.get?_push_size _ rfl, rfl, rfl⟩, hl.push _⟩ (fun b hb => ?_) (Nat.ne_of_lt hlt))
  show b < (s.heap.push _).objs.size
  rw [Heap.size_push]
  rcases List.mem_cons.mp hb with rfl | hb
  · exact Nat.lt_succ_self _
  · rw [List.mem_singleton.mp hb]; exact Nat.lt_succ_of_lt hlt
theorem kept_old {h' : Heap} {ob : Obj} (hk : ∀ b o, b ∉ [s.heap.objs.size] → (s.heap.push ob).get? b = some o → h'.get? b = some o) :
    ∀ b o, s.heap.get? b = some o → h'.get? b = some o := fun b o e =>
  hk b o (fun hm => absurd (List.mem_singleton.mp hm ▸ Heap.lt_size e) (Nat.lt_irrefl _)) (Heap.get?_push_of_some _ e)
theorem min_pair {Q : Value → Shared → Prop} (hh : A.handled = none) (hl : s.heap.IsTuple l (intItems #[(i, t), (j, u)]))
    (h : ∀ h' tk, (∀ b o, s.heap.get? b = some o → h'.get? b = some o) → Q (if j < i then .int j u else .int i t) { s with heap := h', toks := tk }) :
    wpAny (model prog w) A (call (.builtin "min") [.ref l]) Q E s := by
  refine call_min_walk (pair_iter hl fun s₂ e st hfp hlI => ?_)
  subst e
  refine ⟨_, _, _, _, _, _, _, rfl, Walks.tuple (A := A.in1) hh _ l hlI (intItems #[(i, t), (j, u)]), st, hfp, by simp [intItems], CmpOf.ints_lt (numAt #[(i, t), (j, u)]) (fun _ _ => intItems_at), fun v h' tk hP hk => ?_⟩
  have q := h h' tk (kept_old hk)
  have hsz2 : (intItems #[(i, t), (j, u)]).size - 1 = 1 := by simp [intItems]
  rw [hsz2] at hP
  by_cases hba : j < i
  · have e : argBest (fun a b => decide (numAt #[(i, t), (j, u)] a < numAt #[(i, t), (j, u)] b)) 1 = 1 := by simp [argBest, numAt, hba]
    rw [e] at hP
    have : v = Value.int j u := by simpa [intItems] using hP.symm
    rw [if_pos hba] at q
    rw [this]; exact q
  · have e : argBest (fun a b => decide (numAt #[(i, t), (j, u)] a < numAt #[(i, t), (j, u)] b)) 1 = 0 := by simp [argBest, numAt, hba]
    rw [e] at hP
    have : v = Value.int i t := by simpa [intItems] using hP.symm
    rw [if_neg hba] at q
    rw [this]; exact q
theorem max_pair {Q : Value → Shared → Prop} (hh : A.handled = none) (hl : s.heap.IsTuple l (intItems #[(i, t), (j, u)]))
    (h : ∀ h' tk, (∀ b o, s.heap.get? b = some o → h'.get? b = some o) → Q (if j > i then .int j u else .int i t) { s with heap := h', toks := tk }) :
    wpAny (model prog w) A (call (.builtin "max") [.ref l]) Q E s := by
  refine call_max_walk (pair_iter hl fun s₂ e st hfp hlI => ?_)
  subst e
  refine ⟨_, _, _, _, _, _, _, rfl, Walks.tuple (A := A.in1) hh _ l hlI (intItems #[(i, t), (j, u)]), st, hfp, by simp [intItems], CmpOf.ints_gt (numAt #[(i, t), (j, u)]) (fun _ _ => intItems_at), fun v h' tk hP hk => ?_⟩
  have q := h h' tk (kept_old hk)
  have hsz2 : (intItems #[(i, t), (j, u)]).size - 1 = 1 := by simp [intItems]
  rw [hsz2] at hP
  by_cases hba : j > i
  · have e : argBest (fun a b => decide (numAt #[(i, t), (j, u)] a > numAt #[(i, t), (j, u)] b)) 1 = 1 := by simp [argBest, numAt, hba]
    rw [e] at hP
    have : v = Value.int j u := by simpa [intItems] using hP.symm
    rw [if_pos hba] at q
    rw [this]; exact q
  · have e : argBest (fun a b => decide (numAt #[(i, t), (j, u)] a > numAt #[(i, t), (j, u)] b)) 1 = 0 := by simp [argBest, numAt, hba]
    rw [e] at hP
    have : v = Value.int i t := by simpa [intItems] using hP.symm
    rw [if_neg hba] at q
    rw [this]; exact q
end
end SQ
namespace L2
open PySem PySem.Spec PyProof.Rows SQ
theorem pair_of {h : Heap} {p : Addr} {i j : Int} {t t' : Tok} (pl : IsTup h p #[Value.int i t, Value.int j t']) : h.IsTuple p (intItems #[(i, t), (j, t')]) := by
  have e : intItems #[(i, t), (j, t')] = #[Value.int i t, Value.int j t'] := by simp [intItems]
  rw [e]
  exact pl
section
variable {X : Cx}
theorem call_min_pair (hc : X.calm = true) : CallR X (.builtin "min") (fun xs H Q => ∃ p i j, xs = [.ref p] ∧ SqT X.K H p [.int i, .int j] ∧ Q (.int (if j < i then j else i)) H) := by
  intro pins s σ H xs us Q I r h
  obtain ⟨p, i, j, rfl, hq, q⟩ := h
  obtain ⟨u, rfl, rx⟩ := vals1 r
  cases rx
  obtain ⟨its, r', pl, hz⟩ := I.tuple hq
  obtain ⟨u1, u2, rfl, ⟨t, rfl⟩, ⟨t', rfl⟩⟩ := vals2 r'
  refine min_pair (i := i) (j := j) (t := t) (u := t') (I.ok.hd hc) (pair_of pl) fun h' tk k => ⟨_, H, I.kept k, ?_, q⟩
  by_cases hj : j < i
  · rw [if_pos hj, if_pos hj]; exact ⟨_, rfl⟩
  · rw [if_neg hj, if_neg hj]; exact ⟨_, rfl⟩
theorem call_max_pair (hc : X.calm = true) : CallR X (.builtin "max") (fun xs H Q => ∃ p i j, xs = [.ref p] ∧ SqT X.K H p [.int i, .int j] ∧ Q (.int (if j > i then j else i)) H) := by
  intro pins s σ H xs us Q I r h
  obtain ⟨p, i, j, rfl, hq, q⟩ := h
  obtain ⟨u, rfl, rx⟩ := vals1 r
  cases rx
  obtain ⟨its, r', pl, hz⟩ := I.tuple hq
  obtain ⟨u1, u2, rfl, ⟨t, rfl⟩, ⟨t', rfl⟩⟩ := vals2 r'
  refine max_pair (i := i) (j := j) (t := t) (u := t') (I.ok.hd hc) (pair_of pl) fun h' tk k => ⟨_, H, I.kept k, ?_, q⟩
  by_cases hj : j > i
  · rw [if_pos hj, if_pos hj]; exact ⟨_, rfl⟩
  · rw [if_neg hj, if_neg hj]; exact ⟨_, rfl⟩
end
end L2
namespace DL
open PySem PySem.Spec L2
section
variable {K : PySem.W.Frag}
noncomputable def gMinP : List D → Option D
  | [.tup [.int i, .int j]] => some (.int (if j < i then j else i))
  | _ => none
noncomputable def gMaxP : List D → Option D
  | [.tup [.int i, .int j]] => some (.int (if j > i then j else i))
  | _ => none
theorem a_minP : OpN K (fun xs H Q => ∃ p i j, xs = [.ref p] ∧ SqT K H p [.int i, .int j] ∧ Q (.int (if j < i then j else i)) H) gMinP := by
  intro Hs H xs z us Q s r e q
  unfold gMinP at e
  split at e
  · cases e
    cases r with
    | cons r rs =>
    cases rs
    cases r with
    | @tup a vs ds h r =>
      cases r with
      | cons r1 r =>
      cases r with
      | cons r2 r =>
      cases r
      cases r1
      cases r2
      exact ⟨a, _, _, rfl, SqT.of (s _ _ h), q _ _ _ (Grow.refl s) (.int _)⟩
  · cases e
theorem a_maxP : OpN K (fun xs H Q => ∃ p i j, xs = [.ref p] ∧ SqT K H p [.int i, .int j] ∧ Q (.int (if j > i then j else i)) H) gMaxP := by
  intro Hs H xs z us Q s r e q
  unfold gMaxP at e
  split at e
  · cases e
    cases r with
    | cons r rs =>
    cases rs
    cases r with
    | @tup a vs ds h r =>
      cases r with
      | cons r1 r =>
      cases r with
      | cons r2 r =>
      cases r
      cases r1
      cases r2
      exact ⟨a, _, _, rfl, SqT.of (s _ _ h), q _ _ _ (Grow.refl s) (.int _)⟩
  · cases e
end
end DL
set_option maxHeartbeats 4000000
namespace L2
open PySem PySem.Spec PyProof.Rows
noncomputable def repS (z : Str) (n : Nat) : Str := ⟨(List.replicate n z.cps).foldl (· ++ ·) #[]⟩
section
variable {X : Cx}
noncomputable def rMulS : R2 := fun x y H Q => ∃ z n, x = .str z ∧ y = .int n ∧ z.length = 1 ∧ 0 ≤ n ∧ n ≤ 1000 ∧ Q (.str (repS z n.toNat)) H
theorem repS_size (z : Str) : ∀ (n : Nat) (a : Array Nat), ((List.replicate n z.cps).foldl (· ++ ·) a).size = a.size + n * z.cps.size
  | 0, a => by simp
  | n + 1, a => by
    rw [List.replicate_succ, List.foldl_cons, repS_size z n, Array.size_append, Nat.succ_mul]
    omega
theorem op_mulS : OpR X (binaryOp .Mult) rMulS := by
  intro pins s σ H x y v u Q I rx ry h
  obtain ⟨z, n, rfl, rfl, hz, h0, h1, q⟩ := h
  obtain ⟨t, rfl⟩ := rx
  obtain ⟨t', rfl⟩ := ry
  have hl : (100000 : Nat) ≤ sizeLine := by decide
  have hlen : (repS z n.toNat).length = n.toNat := by
    show ((List.replicate n.toNat z.cps).foldl (· ++ ·) #[]).size = _
    have hz' : z.cps.size = 1 := hz
    rw [repS_size, hz']
    simp
  refine PySem.P.mul_str (by simp; omega) (fun a b => by rw [hz]; have : (2 ^ 63 - 1 : Int) / n ≥ 1 := (Int.le_ediv_iff_mul_le (by omega)).mpr (by omega); omega) (fun a b => by rw [hz]; unfold Builtin.Str.tooLong; simp; omega) ?_
  by_cases c0 : n < 1
  · rw [if_pos c0]
    have e0 : n.toNat = 0 := by omega
    have e : repS z n.toNat = Str.empty := by rw [e0]; rfl
    rw [e] at q
    exact ⟨by decide, .str Str.empty, H, I.tok _, ⟨_, rfl⟩, q⟩
  · rw [if_neg c0]
    by_cases c1 : n = 1
    · rw [if_pos (by rw [c1]; rfl)]
      have e : repS z n.toNat = z := by
        rw [c1]
        show (⟨#[] ++ z.cps⟩ : Str) = z
        rw [Array.empty_append]
      rw [e] at q
      exact ⟨.str z, H, I, ⟨_, rfl⟩, q⟩
    · rw [if_neg (by rw [hz]; simpa using c1)]
      exact ⟨by show (repS z n.toNat).length ≤ _; rw [hlen]; omega, .str (repS z n.toNat), H, I.tok _, ⟨_, rfl⟩, q⟩
theorem call_int_bl : CallR X (.type "int") (fun xs H Q => ∃ b, xs = [.bl b] ∧ Q (.int (if b then 1 else 0)) H) := by
  intro pins s σ H xs us Q I r h
  obtain ⟨b, rfl, q⟩ := h
  obtain ⟨u, rfl, rx⟩ := vals1 r
  cases rx
  exact call_int_bool ⟨.int (if b then 1 else 0), H, I.tok _, ⟨_, rfl⟩, q⟩
end
end L2
namespace DL
open PySem PySem.Spec L2 PyProof.Rows
section
variable {X : Cx} {K : PySem.W.Frag} {e : Expr} {es : List Expr} {f : Fe} {fj : Fj}
noncomputable def gMulS : D → D → Option D
  | .str z, .int n => if z.length = 1 ∧ 0 ≤ n ∧ n ≤ 1000 then some (.str (repS z n.toNat)) else none
  | _, _ => none
theorem a_mulS : Op2 K rMulS gMulS := by
  intro Hs H x y z u v Q s rx ry e q
  cases rx with
  | str a =>
    cases ry with
    | int j =>
      obtain ⟨hc, rfl⟩ := ite_some (show (if a.length = 1 ∧ 0 ≤ j ∧ j ≤ 1000 then some (D.str (repS a j.toNat)) else none) = some z from e)
      exact ⟨a, j, rfl, rfl, hc.1, hc.2.1, hc.2.2, q _ H Hs (Grow.refl s) (.str _)⟩
    | _ => cases e
  | _ => cases e
noncomputable def gIntB : List D → Option D
  | [.bl b] => some (.int (if b then 1 else 0))
  | _ => none
theorem a_intB : OpN K (fun xs H Q => ∃ b, xs = [.bl b] ∧ Q (.int (if b then 1 else 0)) H) gIntB := by
  intro Hs H xs z us Q s r e q
  unfold gIntB at e
  split at e
  · cases e
    cases r with
    | cons r rs =>
    cases rs
    cases r
    exact ⟨_, rfl, q _ _ _ (Grow.refl s) (.int _)⟩
  · cases e
noncomputable def jRepr (f : Fe) (fj : Fj) : Fj := fun ρ => match f ρ with
  | some (.str x) => (fj ρ).map ((reprText x).length + ·)
  | _ => none
theorem pj_repr {p : Pos} (he : PF X K e f) (h1 : PJ X K es fj) : PJ X K (.FormattedValue e 114 none p :: es) (jRepr f fj) := fun hK pins s σ H acc ρ Hs n Q I st ef hl k => by
  unfold jRepr at ef
  split at ef
  · rename_i x qi
    cases q : fj ρ with
    | none => rw [q] at ef; cases ef
    | some m =>
      rw [q] at ef
      cases ef
      refine joinParts_cons (wpAny_FormattedValue_repr (wpAny_mono (he hK pins s σ H (fun v H' => ∃ Hs', Grow Hs H Hs' H' ∧ v = .str x) I ⟨ρ, Hs, _, st, qi, fun v H' Hs' g r => by cases r; exact ⟨Hs', g, rfl⟩⟩) (fun u s1 ⟨v, H1, I1, r, Hs1, g1, e1⟩ => ?_) fun _ _ z => z))
      subst e1
      obtain ⟨t, rfl⟩ := r
      refine wpAny_pyReprObj_str ?_ (by lia)
      refine formatField_str (fun t' tk => ?_) (by lia)
      refine ⟨by rw [len_app]; lia, h1 hK pins _ σ H1 _ ρ Hs1 m Q ((I1.tok _).tok _) (st.grow g1) q (by rw [len_app]; lia) fun x t s' H' Hs' g => k x t s' H' Hs' (g1.trans g)⟩
  · cases ef
end
end DL
set_option maxHeartbeats 4000000
namespace CR
open PySem PySem.Spec L2 DL PyProof.Rows
noncomputable abbrev N_init : List Str := ["self", "words", "pairs", "cost", "first", "second"]
noncomputable abbrev N_check_words : List Str := ["words", "text", "cost"]
noncomputable def x_check_words (C CB : Addr) : Fx :=
  (xSeq (xIf (bTest (f2 gGt (fA gLen (aCons (fVar 0) aNil)) (fC (.int 30)))) (xRaise CB (jLit (Str.ofString "there are more than ").length (jInt (fC (.int 30)) (jLit (Str.ofString " words").length jNil)))) (xOk gNext)) (xFor (iLst (fVar 0)) (tTwo 1 2) (xSeq (xIf (bOr (bTest (f2 gLt (fA gLenS (aCons (fVar 1) aNil)) (fC (.int 1)))) (bTest (f2 gGt (fA gLenS (aCons (fVar 1) aNil)) (fC (.int 12))))) (xRaise CB (jLit (Str.ofString "a word has 1 to ").length (jInt (fC (.int 12)) (jLit (Str.ofString " signs, not as ").length (jRepr (fVar 1) jNil))))) (xOk gNext)) (xIf (bTest (f2 gIs (fVar 2) (fC .non))) (xRaise CB (jLit (Str.ofString "the word ").length (jRepr (fVar 1) (jLit (Str.ofString " has no cost").length jNil)))) (xOk gNext)))))
noncomputable def FX_check_words (C CB : Addr) : List D → Option Rx := runAX 1 N_check_words (x_check_words C CB)
noncomputable abbrev N_check_pairs : List Str := ["pairs", "many", "seen", "first", "second", "cost"]
noncomputable def x_check_pairs (C CB : Addr) : Fx :=
  (xSeq (xOk (gNewT 2)) (xFor (iLst (fVar 0)) (tMany [3, 4, 5]) (xSeq (xIf (bNot (bAnd (bTest (f3c gLe gLt (fC (.int 0)) (fVar 3) (fVar 1))) (bTest (f3c gLe gLt (fC (.int 0)) (fVar 4) (fVar 1))))) (xRaise CB (jLit (Str.ofString "one of the words ").length (jInt (fVar 3) (jLit (Str.ofString " and ").length (jInt (fVar 4) (jLit (Str.ofString " is not there").length jNil)))))) (xOk gNext)) (xSeq (xIf (bTest (f2 gIs (fVar 5) (fC .non))) (xRaise CB (jLit (Str.ofString "the words ").length (jInt (fVar 3) (jLit (Str.ofString " and ").length (jInt (fVar 4) (jLit (Str.ofString " have no cost").length jNil)))))) (xOk gNext)) (xSeq (xIf (bTest (fDInOwn 2 (fA gTup (aCons (fVar 3) (aCons (fVar 4) aNil))))) (xRaise CB (jLit (Str.ofString "the words ").length (jInt (fVar 3) (jLit (Str.ofString " and ").length (jInt (fVar 4) (jLit (Str.ofString " stand twice").length jNil)))))) (xOk gNext)) (xOk (gPut 2 (fA gTup (aCons (fVar 3) (aCons (fVar 4) aNil))) (fC (.bl true)))))))))
noncomputable def FX_check_pairs (C CB : Addr) : List D → Option Rx := runAX 2 N_check_pairs (x_check_pairs C CB)
noncomputable abbrev N_count_cuts : List Str := ["words", "text", "ways", "place"]
noncomputable def g_count_cuts (C CB : Addr) : Fs :=
  (gSeq (gCatN 2 (fComp 1 [] (iStr (fVar 1)) (tName 0) bTrue (fC (.int 0))) (fA gLst (aCons (fC (.int 1)) aNil))) (gSeq (gFor (iRngDn (f2 gSub (fA gLenS (aCons (fVar 1) aNil)) (fC (.int 1))) (f1 gNeg (fC (.int 1))) (f1 gNeg (fC (.int 1)))) (tName 3) (gPutL 2 (fVar 3) (fA gSum (aCons (fComp 1 [(("place" : Str), 3), (("text" : Str), 1), (("ways" : Str), 2)] (iLst (f1 (gFld C ("texts" : Str)) (fVar 0))) (tName 0) (bTru (f3 gStarts (fVar 2) (fVar 0) (fVar 1))) (fIxOwn 3 (f2 gAdd (fVar 1) (fA gLenS (aCons (fVar 0) aNil))))) aNil)))) (gRet (fIxOwn 2 (fC (.int 0))))))
noncomputable def F_count_cuts (C CB : Addr) : List D → Option D := runA 2 N_count_cuts (g_count_cuts C CB)
noncomputable abbrev N_Lwhole : List Str := ["_law_found"]
noncomputable def g_Lwhole (C CB : Addr) : Fs :=
  (gRet (fAnd (f1 (gInst "int") (fVar 0)) (fNot (f1 (gInst "bool") (fVar 0)))))
noncomputable def F_Lwhole (C CB : Addr) : List D → Option D := runA 1 N_Lwhole (g_Lwhole C CB)
noncomputable abbrev ps_Words : List Str := ["self", "words", "pairs"]
noncomputable abbrev ns_Words : List Str := ["texts", "costs", "added"]
noncomputable def addD : List D → List (List Key) → List D → Option (List (List Key) × List D)
  | [], ks, ds => some (ks, ds)
  | .tup [a, b, c] :: ps, ks, ds => (asKey a).bind fun x => (asKey b).bind fun y => if ks.Nodup ∧ ks.length < sizeLine then addD ps (putKs ks [x, y]) (putDs ks ds [x, y] c) else none
  | _ :: _, _, _ => none
noncomputable abbrev e_texts : Fe := fComp 2 [] (iLst (fVar 1)) (tTwo 0 1) bTrue (fFlat (fVar 0))
noncomputable abbrev e_costs : Fe := fComp 2 [] (iLst (fVar 1)) (tTwo 0 1) bTrue (fFlat (fVar 1))
noncomputable def FM_Words (C CB : Addr) : List D → Option (List D ⊕ Addr)
  | [.lst ws, .lst ps] => (FX_check_words C CB [.lst ws]).bind fun r => match r with
    | .xr B => if B = CB then some (.inr B) else none
    | .val _ => (FX_check_pairs C CB [.lst ps, .int ws.length]).bind fun r => match r with
      | .xr B => if B = CB then some (.inr B) else none
      | .val _ => (e_texts [none, some (.val (.lst ws)), some (.val (.lst ps)), none, none, none]).bind fun t => (e_costs [none, some (.val (.lst ws)), some (.val (.lst ps)), none, none, none]).bind fun c => (addD ps [] []).bind fun q => if q.2.all scalD then some (.inl [t, c, .dT q.1 q.2]) else none
  | _ => none
theorem PFpe {X : Cx} {K : PySem.W.Frag} {e : Expr} {f : Fe} (h : PF X K e f) (hK : X.K = K) : PE X e (tF K f) := h hK
noncomputable abbrev N_law : List Str := ["_law_script", "_law_words", "_law_k", "_law_number", "_law_pairs", "_law_one", "_law_other", "_law_good", "_law_names", "_law_handed", "_law_kept", "_law_made", "e", "_law_told"]
noncomputable def g_law (C CB : Addr) : Fs :=
  (gSeq (gNew 1 aNil) (gSeq (gFor (iRng (f2 gIx (fA gLst (aCons (fC (.int 0)) (aCons (fC (.int 1)) (aCons (fC (.int 2)) (aCons (fC (.int 5)) (aCons (fC (.int 29)) (aCons (fC (.int 30)) (aCons (fC (.int 31)) aNil)))))))) (f2 gMod (fA F_Lmix (aCons (fVar 0) (aCons (fC (.int 0)) aNil))) (fC (.int 7))))) (tName 2) (gSeq (gSet 3 (fA F_Lmix (aCons (fVar 0) (aCons (f2 gAdd (fC (.int 1)) (fVar 2)) aNil)))) (gApp 1 (fA gTup (aCons (f2 gMulS (fC (.str "a")) (f2 gIx (fA gLst (aCons (fC (.int 1)) (aCons (fC (.int 2)) (aCons (fC (.int 1)) (aCons (fC (.int 12)) (aCons (fC (.int 3)) (aCons (fC (.int 5)) (aCons (fC (.int 0)) (aCons (fC (.int 13)) aNil))))))))) (f2 gAdd (f2 gMod (fVar 3) (fC (.int 6))) (f2 gMul (fA gIntB (aCons (f2 gEqS (f2 gMod (f2 gFdiv (fVar 3) (fC (.int 6))) (fC (.int 40))) (fC (.int 0))) aNil)) (fC (.int 2)))))) (aCons (f2 gMod (f2 gFdiv (fVar 3) (fC (.int 240))) (fC (.int 9))) aNil)))))) (gSeq (gNew 4 aNil) (gSeq (gFor (iRng (f2 gMod (fA F_Lmix (aCons (fVar 0) (aCons (fC (.int 33)) aNil))) (fC (.int 5)))) (tName 2) (gSeq (gSet 3 (fA F_Lmix (aCons (fVar 0) (aCons (f2 gAdd (fC (.int 34)) (fVar 2)) aNil)))) (gSeq (gSet 5 (f2 gMod (fVar 3) (fA gMax (aCons (fC (.int 1)) (aCons (fLenOwn 1) aNil))))) (gSeq (gSet 6 (f2 gMod (f2 gFdiv (fVar 3) (fC (.int 31))) (fA gMax (aCons (fC (.int 1)) (aCons (fLenOwn 1) aNil))))) (gSeq (gIf (bTest (f2 gEqS (f2 gMod (f2 gFdiv (fVar 3) (fC (.int 961))) (fC (.int 12))) (fC (.int 0)))) (gSet 5 (f2 gIx (fA gLst (aCons (f1 gNeg (fC (.int 1))) (aCons (fLenOwn 1) (aCons (fC (.int 700)) aNil)))) (f2 gMod (f2 gFdiv (fVar 3) (fC (.int 11532))) (fC (.int 3))))) gNext) (gApp 4 (fA gTup (aCons (fVar 5) (aCons (fVar 6) (aCons (f2 gMod (f2 gFdiv (fVar 3) (fC (.int 1000))) (fC (.int 3))) aNil)))))))))) (gFrz 1 (gSeq (gSet 7 (fAnd (f2 gLe (fA gLen (aCons (fVar 1) aNil)) (fC (.int 30))) (fA gAll (aCons (fComp 1 [] (iLst (fVar 1)) (tName 0) bTrue (f3c gLe gLe (fC (.int 1)) (fA gLenS (aCons (f2 gIx (fVar 0) (fC (.int 0))) aNil)) (fC (.int 12)))) aNil)))) (gFrz 4 (gSeq (gSet 8 (fComp 1 [] (iLst (fVar 4)) (tName 0) bTrue (fSlT (fVar 0) oNone (oSome (fC (.int 2)))))) (gSeq (gSet 7 (fAnd (fVar 7) (f2 gEqS (f1 gLenSet (fVar 8)) (fA gLen (aCons (fVar 8) aNil))))) (gSet 7 (fAnd (fVar 7) (fA gAll (aCons (fComp 1 [(("_law_words" : Str), 1)] (iLst (fVar 8)) (tName 0) bTrue (fAnd (f2 gLe (fC (.int 0)) (fA gMinP (aCons (fVar 0) aNil))) (f2 gLt (fA gMaxP (aCons (fVar 0) aNil)) (fA gLen (aCons (fVar 1) aNil))))) aNil)))))))))))))
noncomputable def F_law (C CB : Addr) : List D → Option D := runA 1 N_law (g_law C CB)
end CR
set_option maxHeartbeats 4000000
namespace CR
open PySem PySem.F L2 DL PyProof.Rows
noncomputable def top (i : Nat) : Stmt := PySem.Challenge.pw_cheapread_k21_no_words.main.body.getD i (.Pass ⟨0, 0, 0, 0⟩)
structure Txt (K : PySem.W.Frag) (mg : Str → Option Value) (C : Addr) : Prop where
  b_ValueError : mg "ValueError" = none
  b_all : mg "all" = none
  b_bool : mg "bool" = none
  b_int : mg "int" = none
  b_isinstance : mg "isinstance" = none
  b_len : mg "len" = none
  b_list : mg "list" = none
  b_max : mg "max" = none
  b_min : mg "min" = none
  b_range : mg "range" = none
  b_set : mg "set" = none
  b_sum : mg "sum" = none
  c_MOST_SIGNS : ∃ t, mg "MOST_SIGNS" = some (.int 12 t)
  c_MOST_WORDS : ∃ t, mg "MOST_WORDS" = some (.int 30 t)
  cl : Cls K C
  kit_bool : KitOk K "bool"
  kit_int : KitOk K "int"
  n_texts : NoAttr K C "texts"
structure Exn (K : PySem.W.Frag) (mg : Str → Option Value) (base : Heap) (CB CR C1 C2 : Addr) : Prop where
  own : OwnCls "BadWords" CB [.type "ValueError", .type "Exception", .type "BaseException", .type "object"] "ValueError.__new__" mg base
  e_BadWords : mg "BadWords" = some (.ref CB)
  e_ReadError : mg "ReadError" = some (.ref CR)
  e_BadChain : mg "BadChain" = some (.ref C1)
  e_BadGrammar : mg "BadGrammar" = some (.ref C2)
  ik_BadWords : IsK K [.ref CB] CB false true
  ik_ValueError : IsK K [.type "ValueError"] CB false true
  ik_BadChain_BadGrammar : IsK K [.ref C1, .ref C2] CB false false
  exm : PySem.W.exmOne K (.ref CB) (.ref CR) = some true
theorem boot_ValueError : bootBuiltins "ValueError" = some (.type "ValueError") := by kernel_rfl
theorem pf_globE {X : Cx} {K : PySem.W.Frag} {pos : Pos} {x : Str} {i : Int} (hg : Gl X x) (hm : ∃ t, X.mg x = some (.int i t)) (hd : (x == ("__debug__" : Str)) = false := by decide) : PF X K (.Name x pos) (fC (.int i)) :=
  let ⟨_, h⟩ := hm; pf_glob hg h hd
section
variable {P : Program} {w : World} {K : PySem.W.Frag} {mg : Str → Option Value} {base : Heap} {C CB CR C1 C2 : Addr}
noncomputable abbrev s_init : Stmt := inClass (top 8) 0
theorem fs_init : FnScope N_init ["self", "words", "pairs"] (defScope s_init) := ⟨rfl, rfl, rfl, by decide +kernel, rfl, by decide +kernel, by decide +kernel⟩
noncomputable abbrev sc_init_0 : Scope := { kind := .function, names := [(Str.ofString ".0", NameKind.local), (Str.ofString "text", NameKind.local), (Str.ofString "cost", NameKind.local)], isGenerator := false, isCoroutine := false, more := [] }
theorem S_init_0 : CScopeN (defScope s_init) [("self" : Str), ("words" : Str), ("pairs" : Str), ("cost" : Str), ("first" : Str), ("second" : Str)] sc_init_0 [("text" : Str), ("cost" : Str)] [] := ⟨rfl, by decide +kernel, by decide +kernel, by decide +kernel, by decide +kernel, by decide +kernel⟩
noncomputable abbrev sc_init_1 : Scope := { kind := .function, names := [(Str.ofString ".0", NameKind.local), (Str.ofString "text", NameKind.local), (Str.ofString "cost", NameKind.local)], isGenerator := false, isCoroutine := false, more := [] }
theorem S_init_1 : CScopeN (defScope s_init) [("self" : Str), ("words" : Str), ("pairs" : Str), ("cost" : Str), ("first" : Str), ("second" : Str)] sc_init_1 [("text" : Str), ("cost" : Str)] [] := ⟨rfl, by decide +kernel, by decide +kernel, by decide +kernel, by decide +kernel, by decide +kernel⟩
noncomputable abbrev s_check_words : Stmt := top 9
theorem fs_check_words : FnScope N_check_words ["words"] (defScope s_check_words) := ⟨rfl, rfl, rfl, by decide +kernel, rfl, by decide +kernel, by decide +kernel⟩
theorem t_check_words (T : Txt K mg C) (V : Exn K mg base CB CR C1 C2)  {f : Addr} (cdv : Value) (A : Around) (outer : List Env) (s : Shared) (H : Hp) (E : XK) (hr : Room (0) (A.deeper (PyProof.Rows.envOfC "check_words" (defScope s_check_words) s.heap.objs.size f cdv))) :
    PFXs (cxOf (CX1 P w) P w K mg base N_check_words "check_words" (defScope s_check_words) f cdv A outer s H E) K (defBody s_check_words) (x_check_words C CB) :=
  (pxs_cons (px_if (pt_cmpF op_gt a_gt (pf_callB call_len_seq a_len rfl T.b_len boot_len (pfa_cons (pf_var 0) pfa_nil)) (pf_globE rfl T.c_MOST_WORDS)) (pxs_one (px_raise V.own excBase_ValueError rfl rfl (pj_lit (pj_int (pf_globE rfl T.c_MOST_WORDS) (pj_lit pj_nil))))) pxs_nil) (pxs_one (px_for rfl (pi_listF (pf_var 0)) (pg_twoF 1 2 rfl fs_check_words.nd) (pxs_cons (px_if (PFW.pt (pw_orF (pt_cmpF op_lt a_lt (pf_callB call_len_str a_lenS rfl T.b_len boot_len (pfa_cons (pf_var 1) pfa_nil)) pf_int) (pw_or1F (pt_cmpF op_gt a_gt (pf_callB call_len_str a_lenS rfl T.b_len boot_len (pfa_cons (pf_var 1) pfa_nil)) (pf_globE rfl T.c_MOST_SIGNS))))) (pxs_one (px_raise V.own excBase_ValueError rfl rfl (pj_lit (pj_int (pf_globE rfl T.c_MOST_SIGNS) (pj_lit (pj_repr (pf_var 1) pj_nil)))))) pxs_nil) (pxs_one (px_if (pt_cmpF op_isN a_is (pf_var 2) pf_non) (pxs_one (px_raise V.own excBase_ValueError rfl rfl (pj_lit (pj_repr (pf_var 1) (pj_lit pj_nil))))) pxs_nil))))))
noncomputable abbrev s_check_pairs : Stmt := top 10
theorem fs_check_pairs : FnScope N_check_pairs ["pairs", "many"] (defScope s_check_pairs) := ⟨rfl, rfl, rfl, by decide +kernel, rfl, by decide +kernel, by decide +kernel⟩
theorem t_check_pairs (T : Txt K mg C) (V : Exn K mg base CB CR C1 C2)  {f : Addr} (cdv : Value) (A : Around) (outer : List Env) (s : Shared) (H : Hp) (E : XK) (hr : Room (0) (A.deeper (PyProof.Rows.envOfC "check_pairs" (defScope s_check_pairs) s.heap.objs.size f cdv))) :
    PFXs (cxOf (CX1 P w) P w K mg base N_check_pairs "check_pairs" (defScope s_check_pairs) f cdv A outer s H E) K (defBody s_check_pairs) (x_check_pairs C CB) :=
  (pxs_cons (px_lift (ps_newT 2 fs_check_pairs.nd)) (pxs_one (px_for rfl (pi_listF (pf_var 0)) (pg_threeF 3 4 5 rfl fs_check_pairs.nd) (pxs_cons (px_if (pt_notF (PFW.pt (pw_andF (pt_chainF op_le a_le op_lt a_lt pf_int (pf_var 3) (pf_var 1)) (pw_and1F (pt_chainF op_le a_le op_lt a_lt pf_int (pf_var 4) (pf_var 1)))))) (pxs_one (px_raise V.own excBase_ValueError rfl rfl (pj_lit (pj_int (pf_var 3) (pj_lit (pj_int (pf_var 4) (pj_lit pj_nil))))))) pxs_nil) (pxs_cons (px_if (pt_cmpF op_isN a_is (pf_var 5) pf_non) (pxs_one (px_raise V.own excBase_ValueError rfl rfl (pj_lit (pj_int (pf_var 3) (pj_lit (pj_int (pf_var 4) (pj_lit pj_nil))))))) pxs_nil) (pxs_cons (px_if (pt_dinOwn 2 (hu_of hr) (pf_tup (pfa_cons (pf_var 3) (pfa_cons (pf_var 4) pfa_nil)))) (pxs_one (px_raise V.own excBase_ValueError rfl rfl (pj_lit (pj_int (pf_var 3) (pj_lit (pj_int (pf_var 4) (pj_lit pj_nil))))))) pxs_nil) (pxs_lift (pss_oneF (ps_putD 2 (hu_of hr) (pf_tup (pfa_cons (pf_var 3) (pfa_cons (pf_var 4) pfa_nil))) pf_bl)))))))))
noncomputable abbrev s_count_cuts : Stmt := top 11
theorem fs_count_cuts : FnScope N_count_cuts ["words", "text"] (defScope s_count_cuts) := ⟨rfl, rfl, rfl, by decide +kernel, rfl, by decide +kernel, by decide +kernel⟩
noncomputable abbrev sc_count_cuts_0 : Scope := { kind := .function, names := [(Str.ofString ".0", NameKind.local), (Str.ofString "sign", NameKind.local)], isGenerator := false, isCoroutine := false, more := [] }
theorem S_count_cuts_0 : CScopeN (defScope s_count_cuts) [("words" : Str), ("text" : Str), ("ways" : Str), ("place" : Str)] sc_count_cuts_0 [("sign" : Str)] [] := ⟨rfl, by decide +kernel, by decide +kernel, by decide +kernel, by decide +kernel, by decide +kernel⟩
noncomputable abbrev sc_count_cuts_1 : Scope := { kind := .function, names := [(Str.ofString ".0", NameKind.local), (Str.ofString "word", NameKind.local), (Str.ofString "len", NameKind.globalImplicit), (Str.ofString "place", NameKind.free), (Str.ofString "text", NameKind.free), (Str.ofString "ways", NameKind.free)], isGenerator := false, isCoroutine := false, more := [] }
theorem S_count_cuts_1 : CScopeN (defScope s_count_cuts) [("words" : Str), ("text" : Str), ("ways" : Str), ("place" : Str)] sc_count_cuts_1 [("word" : Str)] [(("place" : Str), 3), (("text" : Str), 1), (("ways" : Str), 2)] := ⟨rfl, by decide +kernel, by decide +kernel, by decide +kernel, by decide +kernel, by decide +kernel⟩
theorem t_count_cuts (T : Txt K mg C)  {f : Addr} (cdv : Value) (A : Around) (outer : List Env) (s : Shared) (H : Hp) (E : XK) (hr : Room (0) (A.deeper (PyProof.Rows.envOfC "count_cuts" (defScope s_count_cuts) s.heap.objs.size f cdv))) :
    PFSs (cxOf CX0 P w K mg base N_count_cuts "count_cuts" (defScope s_count_cuts) f cdv A outer s H E).nox K (defBody s_count_cuts) (g_count_cuts C CB) :=
  (pss_consF (ps_catN 2 fs_count_cuts.nd (pf_comp rfl (S_count_cuts_0.at rfl rfl) (pi_strF (pf_var 1)) (fun s H pins fp => (pg_nameF 0 S_count_cuts_0.nd)) (fun s H pins fp => if_nil) (fun s H pins fp => pf_int)) (pf_lst (pfa_cons pf_int pfa_nil))) (pss_consF (ps_forF rfl rfl (pi_range3F rfl T.b_range (pf_op op_sub a_sub (pf_callB call_len_str a_lenS rfl T.b_len boot_len (pfa_cons (pf_var 1) pfa_nil)) pf_int) (pf_un un_neg a_neg pf_int) (pf_un un_neg a_neg pf_int)) (pg_nameF 3 fs_count_cuts.nd) (pss_oneF (ps_putL 2 (pf_var 3) (pf_callB (call_sum_list rfl) a_sum rfl T.b_sum boot_sum (pfa_cons (pf_comp rfl (S_count_cuts_1.at rfl rfl) (pi_listF (pf_fld (pf_var 0) T.cl T.n_texts)) (fun s H pins fp => (pg_nameF 0 S_count_cuts_1.nd)) (fun s H pins fp => (if_one (pt_truF (pf_starts (pf_var 2) (pf_var 0) (pf_var 1))))) (fun s H pins fp => (pf_ixOwn 3 (pf_op o_add a_add (pf_var 1) (pf_callB call_len_str a_lenS rfl T.b_len boot_len (pfa_cons (pf_var 0) pfa_nil)))))) pfa_nil))))) (pss_oneF (ps_retF (pf_ixOwn 2 pf_int)))))
noncomputable abbrev s_Lcell : Stmt := top 13
theorem fs_Lcell : FnScope N_Lcell ["_law_script", "_law_k"] (defScope s_Lcell) := ⟨rfl, rfl, rfl, by decide +kernel, rfl, by decide +kernel, by decide +kernel⟩
theorem t_Lcell (T : Txt K mg C)  {f : Addr} (cdv : Value) (A : Around) (outer : List Env) (s : Shared) (H : Hp) (E : XK) (hr : Room (0) (A.deeper (PyProof.Rows.envOfC "_law_cell" (defScope s_Lcell) s.heap.objs.size f cdv))) :
    PFSs (cxOf CX0 P w K mg base N_Lcell "_law_cell" (defScope s_Lcell) f cdv A outer s H E).nox K (defBody s_Lcell) (g_Lcell) :=
  (pss_consF (ps_ifF (pt_truF (pf_var 0)) (pss_oneF (ps_retF (pf_ix (pf_var 0) (pf_op op_mod a_mod (pf_var 1) (pf_callB call_len_seq a_len rfl T.b_len boot_len (pfa_cons (pf_var 0) pfa_nil)))))) pss_nilF) (pss_oneF (ps_retF pf_int)))
noncomputable abbrev s_Lmix : Stmt := top 14
theorem fs_Lmix : FnScope N_Lmix ["_law_script", "_law_k"] (defScope s_Lmix) := ⟨rfl, rfl, rfl, by decide +kernel, rfl, by decide +kernel, by decide +kernel⟩
theorem t_Lmix (T : Txt K mg C) (d__law_cell : Df P w K mg base 1 "_law_cell" ["_law_script", "_law_k"] F_Lcell) {f : Addr} (cdv : Value) (A : Around) (outer : List Env) (s : Shared) (H : Hp) (E : XK) (hr : Room (1) (A.deeper (PyProof.Rows.envOfC "_law_mix" (defScope s_Lmix) s.heap.objs.size f cdv))) :
    PFSs (cxOf CX0 P w K mg base N_Lmix "_law_mix" (defScope s_Lmix) f cdv A outer s H E).nox K (defBody s_Lmix) (g_Lmix) :=
  (pss_consF (ps_setF 2 fs_Lmix.nd (pf_op op_mod a_mod (pf_op o_add a_add (pf_call (d__law_cell.mono (by decide)) hr rfl (pfa_cons (pf_var 0) (pfa_cons (pf_var 1) pfa_nil))) (pf_op o_mul a_mul pf_int (pf_op o_add a_add (pf_var 1) pf_int))) pf_int)) (pss_consF (ps_setF 2 fs_Lmix.nd (pf_op op_mod a_mod (pf_op o_mul a_mul (pf_var 2) pf_int) pf_int)) (pss_oneF (ps_retF (pf_op op_mod a_mod (pf_op o_add a_add (pf_op o_mul a_mul (pf_op op_fdiv a_fdiv (pf_var 2) pf_int) pf_int) (pf_var 2)) pf_int)))))
noncomputable abbrev s_Lwhole : Stmt := top 15
theorem fs_Lwhole : FnScope N_Lwhole ["_law_found"] (defScope s_Lwhole) := ⟨rfl, rfl, rfl, by decide +kernel, rfl, by decide +kernel, by decide +kernel⟩
theorem t_Lwhole (T : Txt K mg C)  {f : Addr} (cdv : Value) (A : Around) (outer : List Env) (s : Shared) (H : Hp) (E : XK) (hr : Room (0) (A.deeper (PyProof.Rows.envOfC "_law_whole" (defScope s_Lwhole) s.heap.objs.size f cdv))) :
    PFSs (cxOf CX0 P w K mg base N_Lwhole "_law_whole" (defScope s_Lwhole) f cdv A outer s H E).nox K (defBody s_Lwhole) (g_Lwhole C CB) :=
  (pss_oneF (ps_retF (pf_and (pf_inst rfl T.b_isinstance rfl T.b_int boot_int T.kit_int (pf_var 0)) (pf_one (pf_not (pf_inst rfl T.b_isinstance rfl T.b_bool boot_bool T.kit_bool (pf_var 0)))))))
noncomputable abbrev s_law : Stmt := top 16
theorem fs_law : FnScope N_law ["_law_script"] (defScope s_law) := ⟨rfl, rfl, rfl, by decide +kernel, rfl, by decide +kernel, by decide +kernel⟩
noncomputable abbrev sc_law_0 : Scope := { kind := .function, names := [(Str.ofString ".0", NameKind.local), (Str.ofString "_law_word", NameKind.local), (Str.ofString "len", NameKind.globalImplicit)], isGenerator := false, isCoroutine := false, more := [] }
theorem S_law_0 : CScopeN (defScope s_law) [("_law_script" : Str), ("_law_words" : Str), ("_law_k" : Str), ("_law_number" : Str), ("_law_pairs" : Str), ("_law_one" : Str), ("_law_other" : Str), ("_law_good" : Str), ("_law_names" : Str), ("_law_handed" : Str), ("_law_kept" : Str), ("_law_made" : Str), ("e" : Str), ("_law_told" : Str)] sc_law_0 [("_law_word" : Str)] [] := ⟨rfl, by decide +kernel, by decide +kernel, by decide +kernel, by decide +kernel, by decide +kernel⟩
noncomputable abbrev sc_law_1 : Scope := { kind := .function, names := [(Str.ofString ".0", NameKind.local), (Str.ofString "_law_pair", NameKind.local)], isGenerator := false, isCoroutine := false, more := [] }
theorem S_law_1 : CScopeN (defScope s_law) [("_law_script" : Str), ("_law_words" : Str), ("_law_k" : Str), ("_law_number" : Str), ("_law_pairs" : Str), ("_law_one" : Str), ("_law_other" : Str), ("_law_good" : Str), ("_law_names" : Str), ("_law_handed" : Str), ("_law_kept" : Str), ("_law_made" : Str), ("e" : Str), ("_law_told" : Str)] sc_law_1 [("_law_pair" : Str)] [] := ⟨rfl, by decide +kernel, by decide +kernel, by decide +kernel, by decide +kernel, by decide +kernel⟩
noncomputable abbrev sc_law_2 : Scope := { kind := .function, names := [(Str.ofString ".0", NameKind.local), (Str.ofString "_law_name", NameKind.local), (Str.ofString "min", NameKind.globalImplicit), (Str.ofString "max", NameKind.globalImplicit), (Str.ofString "len", NameKind.globalImplicit), (Str.ofString "_law_words", NameKind.free)], isGenerator := false, isCoroutine := false, more := [] }
theorem S_law_2 : CScopeN (defScope s_law) [("_law_script" : Str), ("_law_words" : Str), ("_law_k" : Str), ("_law_number" : Str), ("_law_pairs" : Str), ("_law_one" : Str), ("_law_other" : Str), ("_law_good" : Str), ("_law_names" : Str), ("_law_handed" : Str), ("_law_kept" : Str), ("_law_made" : Str), ("e" : Str), ("_law_told" : Str)] sc_law_2 [("_law_name" : Str)] [(("_law_words" : Str), 1)] := ⟨rfl, by decide +kernel, by decide +kernel, by decide +kernel, by decide +kernel, by decide +kernel⟩
theorem t_law (T : Txt K mg C) (d__law_mix : Df P w K mg base 2 "_law_mix" ["_law_script", "_law_k"] F_Lmix) {f : Addr} (cdv : Value) (A : Around) (outer : List Env) (s : Shared) (H : Hp) (E : XK) (hr : Room (3) (A.deeper (PyProof.Rows.envOfC "law" (defScope s_law) s.heap.objs.size f cdv))) :
    PFSs (cxOf CX0 P w K mg base N_law "law" (defScope s_law) f cdv A outer s H E).nox K ((defBody s_law).take 8) (g_law C CB) :=
  (pss_consF (ps_newF 1 fs_law.nd pfa_nil) (pss_consF (ps_forF rfl rfl (pi_rangeF rfl T.b_range (pf_ix (pf_lst (pfa_cons pf_int (pfa_cons pf_int (pfa_cons pf_int (pfa_cons pf_int (pfa_cons pf_int (pfa_cons pf_int (pfa_cons pf_int pfa_nil)))))))) (pf_op op_mod a_mod (pf_call (d__law_mix.mono (by decide)) hr rfl (pfa_cons (pf_var 0) (pfa_cons pf_int pfa_nil))) pf_int))) (pg_nameF 2 fs_law.nd) (pss_consF (ps_setF 3 fs_law.nd (pf_call (d__law_mix.mono (by decide)) hr rfl (pfa_cons (pf_var 0) (pfa_cons (pf_op o_add a_add pf_int (pf_var 2)) pfa_nil)))) (pss_oneF (ps_appF 1 (pf_tup (pfa_cons (pf_op op_mulS a_mulS pf_str (pf_ix (pf_lst (pfa_cons pf_int (pfa_cons pf_int (pfa_cons pf_int (pfa_cons pf_int (pfa_cons pf_int (pfa_cons pf_int (pfa_cons pf_int (pfa_cons pf_int pfa_nil))))))))) (pf_op o_add a_add (pf_op op_mod a_mod (pf_var 3) pf_int) (pf_op o_mul a_mul (pf_callTy call_int_bl a_intB rfl T.b_int boot_int (pfa_cons (pf_cmp o_eqS a_eqS (pf_op op_mod a_mod (pf_op op_fdiv a_fdiv (pf_var 3) pf_int) pf_int) pf_int) pfa_nil)) pf_int)))) (pfa_cons (pf_op op_mod a_mod (pf_op op_fdiv a_fdiv (pf_var 3) pf_int) pf_int) pfa_nil))))))) (pss_consF (ps_newF 4 fs_law.nd pfa_nil) (pss_consF (ps_forF rfl rfl (pi_rangeF rfl T.b_range (pf_op op_mod a_mod (pf_call (d__law_mix.mono (by decide)) hr rfl (pfa_cons (pf_var 0) (pfa_cons pf_int pfa_nil))) pf_int)) (pg_nameF 2 fs_law.nd) (pss_consF (ps_setF 3 fs_law.nd (pf_call (d__law_mix.mono (by decide)) hr rfl (pfa_cons (pf_var 0) (pfa_cons (pf_op o_add a_add pf_int (pf_var 2)) pfa_nil)))) (pss_consF (ps_setF 5 fs_law.nd (pf_op op_mod a_mod (pf_var 3) (pf_callB (call_max2 rfl) a_max rfl T.b_max boot_max (pfa_cons pf_int (pfa_cons (pf_lenOwn 1 rfl T.b_len) pfa_nil))))) (pss_consF (ps_setF 6 fs_law.nd (pf_op op_mod a_mod (pf_op op_fdiv a_fdiv (pf_var 3) pf_int) (pf_callB (call_max2 rfl) a_max rfl T.b_max boot_max (pfa_cons pf_int (pfa_cons (pf_lenOwn 1 rfl T.b_len) pfa_nil))))) (pss_consF (ps_ifF (pt_cmpF o_eqS a_eqS (pf_op op_mod a_mod (pf_op op_fdiv a_fdiv (pf_var 3) pf_int) pf_int) pf_int) (pss_oneF (ps_setF 5 fs_law.nd (pf_ix (pf_lst (pfa_cons (pf_un un_neg a_neg pf_int) (pfa_cons (pf_lenOwn 1 rfl T.b_len) (pfa_cons pf_int pfa_nil)))) (pf_op op_mod a_mod (pf_op op_fdiv a_fdiv (pf_var 3) pf_int) pf_int)))) pss_nilF) (pss_oneF (ps_appF 4 (pf_tup (pfa_cons (pf_var 5) (pfa_cons (pf_var 6) (pfa_cons (pf_op op_mod a_mod (pf_op op_fdiv a_fdiv (pf_var 3) pf_int) pf_int) pfa_nil))))))))))) (pss_frzF 1 (pss_consF (ps_setF 7 fs_law.nd (pf_and (pf_cmp op_le a_le (pf_callB call_len_seq a_len rfl T.b_len boot_len (pfa_cons (pf_var 1) pfa_nil)) pf_int) (pf_one (pf_callB (call_all_list rfl) a_all rfl T.b_all boot_all (pfa_cons (pf_comp rfl (S_law_0.at rfl rfl) (pi_listF (pf_var 1)) (fun s H pins fp => (pg_nameF 0 S_law_0.nd)) (fun s H pins fp => if_nil) (fun s H pins fp => (pf_chain op_le a_le op_le a_le pf_int (pf_callB call_len_str a_lenS rfl T.b_len boot_len (pfa_cons (pf_ix (pf_var 0) pf_int) pfa_nil)) pf_int))) pfa_nil))))) (pss_frzF 4 (pss_consF (ps_compF 8 rfl fs_law.nd (S_law_1.at rfl rfl) (pi_listF (pf_var 4)) (fun s H pins fp => (pg_nameF 0 S_law_1.nd)) (fun s H pins fp => if_nil) (fun s H pins fp => (pf_sliceT (pf_var 0) pfo_none (pfo_some pf_int)))) (pss_consF (ps_setF 7 fs_law.nd (pf_and (pf_var 7) (pf_one (pf_cmp o_eqS a_eqS (pf_lenSet rfl hr.units rfl T.b_len rfl T.b_set (pf_var 8)) (pf_callB call_len_seq a_len rfl T.b_len boot_len (pfa_cons (pf_var 8) pfa_nil)))))) (pss_oneF (ps_setF 7 fs_law.nd (pf_and (pf_var 7) (pf_one (pf_callB (call_all_list rfl) a_all rfl T.b_all boot_all (pfa_cons (pf_comp rfl (S_law_2.at rfl rfl) (pi_listF (pf_var 8)) (fun s H pins fp => (pg_nameF 0 S_law_2.nd)) (fun s H pins fp => if_nil) (fun s H pins fp => (pf_and (pf_cmp op_le a_le pf_int (pf_callB (call_min_pair rfl) a_minP rfl T.b_min boot_min (pfa_cons (pf_var 0) pfa_nil))) (pf_one (pf_cmp op_lt a_lt (pf_callB (call_max_pair rfl) a_maxP rfl T.b_max boot_max (pfa_cons (pf_var 0) pfa_nil)) (pf_callB call_len_seq a_len rfl T.b_len boot_len (pfa_cons (pf_var 1) pfa_nil))))))) pfa_nil)))))))))))))))
end
end CR
set_option maxHeartbeats 4000000
namespace CR
open PySem PySem.Spec L2 DL PyProof.Rows
structure Mid (K : PySem.W.Frag) (C dx x : Addr) (Hs H : Hp) (ρ : Rho) (σ : L2.St) (fs : List (Str × V)) (Hs' H' : Hp) : Prop where
  st : StE K Hs' H' ρ σ
  keep : ∀ b o, b ≠ x → H b = some o → H' b = some o
  hs : Same Hs Hs'
  new : ∀ b, Hs' b ≠ none → Hs b = none → H b = none
  nx : Hs' x = none
  obj : H' x = some (.ins C dx fs)
section
variable {K : PySem.W.Frag} {C dx x : Addr} {Hs H Hs' H' Hs2 H2 : Hp} {ρ : Rho} {σ : L2.St} {fs : List (Str × V)}
theorem Mid.nn (m : Mid K C dx x Hs H ρ σ fs Hs' H') : ∀ b, H' b = none → H b = none := fun b hb => by
  by_cases q : b = x
  · rw [q, m.obj] at hb; cases hb
  · cases z : H b with
    | none => rfl
    | some o => rw [m.keep b o q z] at hb; cases hb
theorem Mid.grow (m : Mid K C dx x Hs H ρ σ fs Hs' H') (g : Grow Hs' H' Hs2 H2) : Mid K C dx x Hs H ρ σ fs Hs2 H2 := by
  refine ⟨m.st.grow g, fun b o q e => g.h b o (m.keep b o q e), m.hs.trans g.hs, fun b hb e => ?_, ?_, g.h _ _ m.obj⟩
  · cases z : Hs' b with
    | some o => exact m.new b (by rw [z]; simp) e
    | none => exact m.nn b (g.new b hb z)
  · cases z : Hs2 x with
    | none => rfl
    | some o =>
      have := g.new x (by rw [z]; simp) m.nx
      rw [m.obj] at this; cases this
theorem Mid.put (m : Mid K C dx x Hs H ρ σ fs Hs' H') (fs' : List (Str × V)) : Mid K C dx x Hs H ρ σ fs' Hs' (upd H' x (.ins C dx fs')) := by
  refine ⟨⟨sm_updR m.st.sub m.nx, m.st.len, fun i s e => ?_⟩, fun b o q e => by rw [upd_ne q]; exact m.keep b o q e, m.hs, m.new, m.nx, upd_same⟩
  obtain ⟨v, h1, h2⟩ := m.st.slot i s e
  cases s with
  | val d => exact ⟨v, h1, h2⟩
  | ow w =>
    obtain ⟨b, ho, rfl, k1, k2, k3⟩ := h2
    have nb : b ≠ x := fun z => by
      rw [z, m.obj] at k2
      cases k2
      cases k3
    exact ⟨.ref b, h1, b, ho, rfl, k1, by rw [upd_ne nb]; exact k2, k3⟩
theorem Mid.mid (m : Mid K C dx x Hs H ρ σ fs Hs' H') : MidH x Hs H Hs' H' := ⟨m.keep, m.hs, m.new, m.st.sub, m.nx⟩
end
section
variable {P : Program} {w : World} {K : PySem.W.Frag} {mg : Str → Option Value} {base : Heap} {C CB : Addr}
theorem putF_eq {f g : Str} {v : V} : ∀ {fs : List (Str × V)}, f ∉ fs.map (·.1) → putF f v fs = fs ++ [(f, v)]
  | [], _ => rfl
  | (n, u) :: fs, h => by
    rw [List.map_cons, List.mem_cons] at h
    show (if n = f then (n, v) :: fs else (n, u) :: putF f v fs) = _
    rw [if_neg fun e => h (.inl e.symm), putF_eq (g := g) fun z => h (.inr z)]
    rfl
noncomputable def tCX (K : PySem.W.Frag) (F : List D → Option Rx) (as : Rho → Option (List D)) (E : XK) : TE := fun σ H Q => ∃ ρ Hs ds r, StE K Hs H ρ σ ∧ as ρ = some ds ∧ F ds = some r ∧ rEnd K Hs H Q E r
theorem pe_callX {X : Cx} {E : XK} {k : Nat} {x : Str} {ps : List Str} {F : List D → Option Rx} {p pos : Pos} {e : Expr} {es : List Expr} {as : Rho → Option (List D)} (T : Thr X E) (hd : Dx X.prog X.w X.K X.mg X.base k x ps F) (hr : Room k X.A) (hg : Gl X x) (ha : PFA X X.K (e :: es) as)
    (hdb : (x == ("__debug__" : Str)) = false := by decide) (he : starEach (e :: es) X.env = (false, eval e X.env) :: starEach es X.env := by rfl) (hpl : (backTo pos (starEach es X.env)).any (·.1) = false := by rfl) :
    PE X (.Call (.Name x p) (e :: es) [] pos) (tCX X.K F as E) := by
  obtain ⟨fa, fd, h1, h2, h3, h4⟩ := hd.ex
  refine PE.imp (pe_call h4 hr hg h1 h2 h3 .nil T.pas (ha rfl) hdb he hpl) fun σ H Q ⟨ρ, Hs, ds, r, st, e1, e2, k⟩ => ?_
  refine ⟨ρ, Hs, ds, st, e1, fun vs H' Hs' g rv => ?_⟩
  show spX X.K F (vs ++ []) H' _ E
  rw [List.append_nil]
  refine ⟨Hs', ds, r, g.sub, rv, e2, ?_⟩
  cases r with
  | val d => exact fun v H2 Hs2 g2 rp => k v H2 Hs2 (g.trans g2) rp
  | xr C => exact fun H2 Hs2 g2 => k H2 Hs2 (g.trans g2)
noncomputable def mkEndN (K : PySem.W.Frag) (C : Addr) (ns : List Str) (x dx : Addr) (Hs H : Hp) (Q : VK) (E : XK) : List D ⊕ Addr → Prop
  | .inl fds => ∀ (H' Hs' : Hp) (fv : List (Str × V)), MidH x Hs H Hs' H' → H' x = some (.ins C dx fv) → fv.map (·.1) = ns → Reps K (newOnly H Hs') fds (fv.map (·.2)) → Q .non H'
  | .inr B => ∀ (H' Hs' : Hp), MidH x Hs H Hs' H' → H' x = some (.ins C dx []) → E (.ref B) none H'
noncomputable def spMkN (K : PySem.W.Frag) (C : Addr) (ns : List Str) (FM : List D → Option (List D ⊕ Addr)) : Sp := fun vs H Q E => ∃ (x dx : Addr) (Hs : Hp) (ds : List D) (us : List V) (r : List D ⊕ Addr), vs = .ref x :: us ∧ H x = some (.ins C dx []) ∧ Hs x = none ∧ Same Hs H ∧ Reps K Hs ds us ∧ FM ds = some r ∧ mkEndN K C ns x dx Hs H Q E r
theorem newOnly_nn {H H1 Hs1 Hs2 : Hp} (h : ∀ b, H1 b = none → H b = none) (s : Same Hs1 Hs2) : Same (newOnly H1 Hs1) (newOnly H Hs2) := fun b o e => by
  unfold newOnly at e ⊢
  cases q : H1 b with
  | some u => rw [q] at e; cases e
  | none =>
    rw [q] at e
    rw [h b q]
    exact s b o e
theorem PFNpe {X : Cx} {K : PySem.W.Frag} {e : Expr} {f : Fe} (h : PFN X K e f) (hK : X.K = K) : PE X e (tFN K f) := h hK
theorem pss_freeze {X : Cx} {sts : List Stmt} {t : TS} (h : PSs X sts t) : PSs X sts (fun Dn σ H => ∃ (p : Addr) (o : Ow) (ho : HO) (Hs : Hp), H p = some ho ∧ OwRep X.K Hs o ho ∧ ∀ ob, t Dn σ (upd H p (frzHO ob ho))) := by
  intro pins s σ H D I hh
  obtain ⟨p, o, ho, Hs, h1, h2, k⟩ := hh
  obtain ⟨ob, I2⟩ := Inv.freeze I h1 h2
  exact h pins s σ _ D I2 (k ob)
theorem var6 {ρ : Rho} {a b c : D} (h : ρ.length = 6) : fVar 3 (((ρ.set 4 (some (.val a))).set 5 (some (.val b))).set 3 (some (.val c))) = some c ∧ fVar 4 (((ρ.set 4 (some (.val a))).set 5 (some (.val b))).set 3 (some (.val c))) = some a ∧ fVar 5 (((ρ.set 4 (some (.val a))).set 5 (some (.val b))).set 3 (some (.val c))) = some b := by
  match ρ, h with
  | [_, _, _, _, _, _], _ => exact ⟨rfl, rfl, rfl⟩
structure Lp (K : PySem.W.Frag) (C dx x p : Addr) (Hs H : Hp) (v1 v2 : V) (kvs : List (List Key × V)) (ds : List D) (ρ : Rho) (σ : L2.St) (Hs' H' : Hp) : Prop where
  m : Mid K C dx x Hs H ρ σ [(("texts" : Str), v1), ("costs", v2), ("added", .ref p)] Hs' H'
  len : ρ.length = 6
  self : σ[0]? = some (some (.ref x))
  hp : Hs' p = none
  h0 : H p = none
  ne : p ≠ x
  at_ : H' p = some (.dT kvs)
  r : Reps K Hs' ds (kvs.map (·.2))
theorem Lp.grow {K : PySem.W.Frag} {C dx x p : Addr} {Hs H Hs' H' Hs2 H2 : Hp} {v1 v2 : V} {kvs : List (List Key × V)} {ds : List D} {ρ : Rho} {σ : L2.St} (l : Lp K C dx x p Hs H v1 v2 kvs ds ρ σ Hs' H') (g : Grow Hs' H' Hs2 H2) : Lp K C dx x p Hs H v1 v2 kvs ds ρ σ Hs2 H2 := by
  refine ⟨l.m.grow g, l.len, l.self, ?_, l.h0, l.ne, g.h _ _ l.at_, l.r.mono g.hs⟩
  cases z : Hs2 p with
  | none => rfl
  | some o =>
    have := g.new p (by rw [z]; simp) l.hp
    rw [l.at_] at this; cases this
theorem Lp.put {K : PySem.W.Frag} {C dx x p : Addr} {Hs H Hs' H' : Hp} {v1 v2 : V} {kvs kvs' : List (List Key × V)} {ds ds' : List D} {ρ : Rho} {σ : L2.St} (l : Lp K C dx x p Hs H v1 v2 kvs ds ρ σ Hs' H') (no : ∀ (i : Nat) (o : Ow), ρ[i]? ≠ some (some (.ow o))) (r : Reps K Hs' ds' (kvs'.map (·.2))) :
    Lp K C dx x p Hs H v1 v2 kvs' ds' ρ σ Hs' (upd H' p (.dT kvs')) := by
  refine ⟨⟨⟨sm_updR l.m.st.sub l.hp, l.m.st.len, fun i s e => ?_⟩, fun b o q e => ?_, l.m.hs, l.m.new, l.m.nx, ?_⟩, l.len, l.self, l.hp, l.h0, l.ne, upd_same, r⟩
  · obtain ⟨v, h1, h2⟩ := l.m.st.slot i s e
    cases s with
    | val d => exact ⟨v, h1, h2⟩
    | ow w => exact absurd e (no i w)
  · have nb : b ≠ p := fun z => by rw [z, l.h0] at e; cases e
    rw [upd_ne nb]; exact l.m.keep b o q e
  · rw [upd_ne (Ne.symm l.ne)]; exact l.m.obj
theorem Lp.fin {K : PySem.W.Frag} {C dx x p : Addr} {Hs H Hs' H' : Hp} {v1 v2 : V} {kvs : List (List Key × V)} {ds : List D} {ρ : Rho} {σ : L2.St} (l : Lp K C dx x p Hs H v1 v2 kvs ds ρ σ Hs' H') (o : HO) : MidH x Hs H (upd Hs' p o) (upd H' p o) := by
  refine ⟨fun b u q e => ?_, l.m.hs.trans (sm_upd l.hp), fun b hb e => ?_, sm_upd2 l.m.st.sub, ?_⟩
  · have nb : b ≠ p := fun z => by rw [z, l.h0] at e; cases e
    rw [upd_ne nb]; exact l.m.keep b u q e
  · by_cases z : b = p
    · rw [z]; exact l.h0
    · rw [upd_ne z] at hb; exact l.m.new b hb e
  · rw [upd_ne (Ne.symm l.ne)]; exact l.m.nx
theorem no_set {ρ : Rho} {j : Nat} {d : D} (no : ∀ (i : Nat) (o : Ow), ρ[i]? ≠ some (some (.ow o))) : ∀ (i : Nat) (o : Ow), (ρ.set j (some (.val d)))[i]? ≠ some (some (.ow o)) := fun i o e => by
  obtain ⟨_, h⟩ := own_ne e (fun es z => by cases z)
  exact no i o h
theorem ite_ok {α : Type} {p : Prop} [Decidable p] {a : Option α} {x : α} (h : (if p then a else none) = some x) : p ∧ a = some x := by
  split at h
  · exact ⟨‹p›, h⟩
  · cases h
theorem addD_cons {d : D} {ps : List D} {ks : List (List Key)} {ds : List D} {q : List (List Key) × List D} (h : addD (d :: ps) ks ds = some q) : ∃ a b c x y, d = .tup [a, b, c] ∧ asKey a = some x ∧ asKey b = some y ∧ ks.Nodup ∧ ks.length < sizeLine ∧ addD ps (putKs ks [x, y]) (putDs ks ds [x, y] c) = some q := by
  unfold addD at h
  split at h
  case h_1 z => cases z
  case h_3 => cases h
  rename_i ks' ds' a b c ps' z
  cases z
  obtain ⟨ka, ea, h⟩ := bind1 h
  obtain ⟨kb, eb, h⟩ := bind1 h
  obtain ⟨⟨nd, hz⟩, h⟩ := ite_ok h
  exact ⟨a, b, c, ka, kb, rfl, ea, eb, nd, hz, h⟩
theorem ok_initW {f : Addr} {fd : FuncData} (U : Fun K "__init__" "Words.__init__" s_init f fd) (T : Txt K mg C) (n1 : NoAttr K C "texts") (n2 : NoAttr K C "costs") (n3 : NoAttr K C "added")
    (d_check_words : Dx P w K mg base 1 "check_words" ["words"] (FX_check_words C CB)) (d_check_pairs : Dx P w K mg base 1 "check_pairs" ["pairs", "many"] (FX_check_pairs C CB)) :
    FnOk P w K mg base (CX1 P w) 2 f fd ps_Words (spMkN K C ns_Words (FM_Words C CB)) := by
  obtain ⟨oc, od, kV, doc, pm, an, cdv, ct, osl, rfl, lk, hcd⟩ := U.ex
  refine fn_of lk hcd fs_init (fun vs H Q E h => ?_) (fun A outer s H vs Q E hr h => ?_)
  · obtain ⟨x, dx, Hs, ds, us, r, rfl, _, _, _, rr, e, _⟩ := h
    rw [List.length_cons, ← rr.length]
    unfold FM_Words at e
    split at e
    · rfl
    · cases e
  · obtain ⟨x, dx, Hs, ds, us, res, rfl, hx, hsx, sm, r, eF, k⟩ := h
    unfold FM_Words at eF
    split at eF
    case h_2 => cases eF
    rename_i ws ps
    refine ⟨_, pss_cons (ps_expr (pe_callX thr_cx (d_check_words.mono (by decide)) hr rfl (pfa_cons (pf_var 1) pfa_nil)))
      (pss_cons (ps_expr (pe_callX thr_cx (d_check_pairs.mono (by decide)) hr rfl (pfa_cons (pf_var 2) (pfa_cons (pf_callB call_len_seq a_len rfl T.b_len boot_len (pfa_cons (pf_var 1) pfa_nil)) pfa_nil))))
      (pss_cons (ps_fld (pv 0) (PFNpe (K := K) (pfn_comp rfl (S_init_0.at rfl rfl) (pi_listF (pf_var 1)) (fun s H pins fp => (pg_twoF 0 1 rfl S_init_0.nd)) (fun s H pins fp => if_nil) (fun s H pins fp => (pfn_flat (pf_var 0)))) rfl) rfl)
      (pss_cons (ps_fld (pv 0) (PFNpe (K := K) (pfn_comp rfl (S_init_1.at rfl rfl) (pi_listF (pf_var 1)) (fun s H pins fp => (pg_twoF 0 1 rfl S_init_1.nd)) (fun s H pins fp => if_nil) (fun s H pins fp => (pfn_flat (pf_var 1)))) rfl) rfl)
      (pss_cons (ps_fld (pv 0) pe_dnewT rfl)
      (pss_cons (ps_for thr_cx.own rfl ((pi_listF (K := K) (pf_var 2)) rfl) (pg_tup rfl (pgs_cons (pg_name (i := 4) fs_init.nd rfl (by first | exact Or.inl rfl | exact Or.inr rfl)) (pgs_cons (pg_name (i := 5) fs_init.nd rfl (by first | exact Or.inl rfl | exact Or.inr rfl)) (pgs_cons (pg_name (i := 3) fs_init.nd rfl (by first | exact Or.inl rfl | exact Or.inr rfl)) pgs_nil))))
        (pss_one (ps_dput (hu_of hr) (pe_fld (pv 0) rfl) (PFpe (K := K) (pf_tup (pfa_cons (pf_var 4) (pfa_cons (pf_var 5) pfa_nil))) rfl) (PFpe (K := K) (pf_var 3) rfl) rfl)))
        (pss_freeze pss_nil)))))), ?_⟩
    cases r with
    | @cons _ v1 _ us r1 r =>
      cases r with
      | @cons _ v2 _ us r2 r =>
        cases r
        have no : ∀ (i : Nat) (o : Ow), ([none, some (.val (.lst ws)), some (.val (.lst ps)), none, none, none] : Rho)[i]? ≠ some (some (.ow o)) := fun i o e => by
          match i, e with
          | 0, e => cases e
          | 1, e => cases e
          | 2, e => cases e
          | 3, e => cases e
          | 4, e => cases e
          | 5, e => cases e
        have m0 : Mid K C dx x Hs H [none, some (.val (.lst ws)), some (.val (.lst ps)), none, none, none] [some (.ref x), some v1, some v2, none, none, none] [] Hs H := by
          refine ⟨⟨sm, rfl, fun i t e => ?_⟩, fun _ _ _ e => e, Same.refl _, fun b h e => absurd e h, hsx, hx⟩
          match i, e with
          | 0, e => cases e
          | 1, e => cases e; exact ⟨_, rfl, r1⟩
          | 2, e => cases e; exact ⟨_, rfl, r2⟩
          | 3, e => cases e
          | 4, e => cases e
          | 5, e => cases e
        show tSeq _ _ _ [some (.ref x), some v1, some v2, none, none, none] H
        obtain ⟨c1, q1, eF⟩ := bind1 eF
        cases c1 with
        | xr B =>
          dsimp only at eF
          split at eF
          case isFalse => cases eF
          cases eF
          exact ⟨_, _, _, .xr B, m0.st, rfl, q1, fun H1 Hs1 g1 => k H1 Hs1 (m0.grow g1).mid (m0.grow g1).obj⟩
        | val d1 =>
        dsimp only at eF
        refine ⟨_, _, _, .val d1, m0.st, rfl, q1, fun _ H1 Hs1 g1 _ => ?_⟩
        have m1 := m0.grow g1
        obtain ⟨c2, q2, eF⟩ := bind1 eF
        cases c2 with
        | xr B =>
          dsimp only at eF
          split at eF
          case isFalse => cases eF
          cases eF
          exact ⟨_, _, _, .xr B, m1.st, rfl, q2, fun H1 Hs1 g1 => k H1 Hs1 (m1.grow g1).mid (m1.grow g1).obj⟩
        | val d2 =>
        dsimp only at eF
        refine ⟨_, _, _, .val d2, m1.st, rfl, q2, fun _ H2 Hs2 g2 _ => ?_⟩
        have m2 := m1.grow g2
        obtain ⟨tx, q3, eF⟩ := bind1 eF
        obtain ⟨cs, q4, eF⟩ := bind1 eF
        obtain ⟨qq, q5, eF⟩ := bind1 eF
        obtain ⟨hsc, eF⟩ := ite_some eF
        cases eF
        have nn2 := m2.nn
        refine ⟨_, _, tx, m2.st, q3, fun y1 H4 Hs4 g4 r4 => ?_⟩
        have m4 := m2.grow g4
        refine ⟨_, rfl, x, C, dx, _, rfl, m4.obj, T.cl, n1, (by show 0 < 1000; decide), ?_⟩
        have m5 := m4.put [(("texts" : Str), y1)]
        have nn5 := m5.nn
        refine ⟨_, _, cs, m5.st, q4, fun y2 H6 Hs6 g6 r6 => ?_⟩
        have m6 := m5.grow g6
        refine ⟨_, rfl, x, C, dx, _, rfl, m6.obj, T.cl, n2, (by show 1 < 1000; decide), ?_⟩
        rw [show putF ("costs" : Str) y2 [(("texts" : Str), y1)] = [(("texts" : Str), y1), ("costs", y2)] from putF_eq (g := "costs") (by show ("costs" : Str) ∉ (["texts"] : List Str); decide +kernel)]
        have m7 := m6.put [(("texts" : Str), y1), ("costs", y2)]
        intro p hp
        have np : p ≠ x := fun z => by rw [z, m7.obj] at hp; cases hp
        refine ⟨_, rfl, x, C, dx, _, rfl, (by rw [upd_ne (Ne.symm np)]; exact m7.obj), T.cl, n3, (by show 2 < 1000; decide), ?_⟩
        rw [show putF ("added" : Str) (.ref p) [(("texts" : Str), y1), ("costs", y2)] = [(("texts" : Str), y1), ("costs", y2), ("added", .ref p)] from putF_eq (g := "added") (by show ("added" : Str) ∉ (["texts", "costs"] : List Str); decide +kernel)]
        have hp6 : Hs6 p = none := m7.st.sub.free hp
        have l0 : Lp K C dx x p Hs H y1 y2 [] [] [none, some (.val (.lst ws)), some (.val (.lst ps)), none, none, none] [some (.ref x), some v1, some v2, none, none, none] Hs6
            (upd (upd (upd H6 x (.ins C dx [(("texts" : Str), y1), ("costs", y2)])) p (.dT [])) x (.ins C dx [(("texts" : Str), y1), ("costs", y2), ("added", .ref p)])) := by
          have h0 : H p = none := m7.nn p hp
          have e1 : upd (upd (upd H6 x (.ins C dx [(("texts" : Str), y1), ("costs", y2)])) p (.dT [])) x (.ins C dx [(("texts" : Str), y1), ("costs", y2), ("added", .ref p)]) = upd (upd H6 x (.ins C dx [(("texts" : Str), y1), ("costs", y2), ("added", .ref p)])) p (.dT []) := by
            funext b
            by_cases z : b = x
            · subst z; rw [upd_same, upd_ne (Ne.symm np), upd_same]
            · by_cases z2 : b = p
              · subst z2; rw [upd_ne z, upd_same, upd_same]
              · rw [upd_ne z, upd_ne z2, upd_ne z, upd_ne z2, upd_ne z]
          rw [e1]
          have m8 := m6.put [(("texts" : Str), y1), ("costs", y2), ("added", .ref p)]
          refine ⟨⟨⟨sm_updR m8.st.sub hp6, rfl, fun i s e => ?_⟩, fun b o q e => ?_, m8.hs, m8.new, m8.nx, ?_⟩, rfl, rfl, hp6, h0, np, upd_same, .nil⟩
          · obtain ⟨v, h1, h2⟩ := m8.st.slot i s e
            cases s with
            | val d => exact ⟨v, h1, h2⟩
            | ow w => exact absurd e (no i w)
          · have nb : b ≠ p := fun z => by rw [z, h0] at e; cases e
            rw [upd_ne nb]; exact m8.keep b o q e
          · rw [upd_ne (Ne.symm np)]; exact m8.obj
        clear m7 m6 m5 m4 m2 m1 m0 hp
        generalize upd (upd (upd H6 x (.ins C dx [(("texts" : Str), y1), ("costs", y2)])) p (.dT [])) x (.ins C dx [(("texts" : Str), y1), ("costs", y2), ("added", .ref p)]) = H8 at l0
        refine ⟨_, _, ps, l0.m.st, rfl, fun J H9 Hs9 g9 it => ?_⟩
        refine ⟨fun i m σ' H' => ∃ ρ' Hs' kvs dv, Lp K C dx x p Hs H y1 y2 kvs dv ρ' σ' Hs' H' ∧ Same Hs9 Hs' ∧ (∀ (i : Nat) (o : Ow), ρ'[i]? ≠ some (some (.ow o))) ∧ m = ps.length - i ∧ i ≤ ps.length ∧ addD (ps.drop i) (kvs.map (·.1)) dv = some qq,
          ⟨_, _, Hs9, [], [], l0.grow g9, Same.refl _, no, rfl, Nat.zero_le _, q5⟩, ?_⟩
        rintro i m σ2 H2' ⟨ρ2, Hs2', kvs, dv, l2, sm2, no2, rfl, hi, e3⟩
        obtain ⟨go, stop⟩ := it i Hs2' H2' sm2 l2.m.st.sub
        by_cases hlt : i < ps.length
        · right
          have hd : ps[i]? = some ps[i] := by simp [hlt]
          obtain ⟨go1, yl⟩ := go _ hd
          rw [List.drop_eq_getElem_cons hlt] at e3
          refine ⟨go1, fun σ' H' => ∃ ρ' Hs' kvs dv, Lp K C dx x p Hs H y1 y2 kvs dv ρ' σ' Hs' H' ∧ Same Hs9 Hs' ∧ (∀ (i : Nat) (o : Ow), ρ'[i]? ≠ some (some (.ow o))) ∧ addD (ps.drop (i + 1)) (kvs.map (·.1)) dv = some qq,
            fun σ' H' ⟨ρ', Hs', kvs', dv', l', sm', no', q⟩ => ⟨ps.length - (i + 1), by lia, ρ', Hs', kvs', dv', l', sm', no', rfl, hlt, q⟩, fun x' H' y => ?_⟩
          obtain ⟨Hs3, g3, r3⟩ := yl x' H' y
          have l3 := l2.grow g3
          have sm3 := sm2.trans g3.hs
          obtain ⟨a, b, c, ka, kb, ed, ea, eb, nd, hz, e3⟩ := addD_cons e3
          rw [ed] at r3
          cases r3 with
          | @tup ad xs _ hh rr =>
          cases rr with
          | @cons _ w1 _ _ s1 rr =>
          cases rr with
          | @cons _ w2 _ _ s2 rr =>
          cases rr with
          | @cons _ w3 _ _ s3 rr =>
          cases rr
          refine ⟨ad, _, rfl, SqT.of (l3.m.st.sub _ _ hh), rfl, _, _, rfl, _, _, rfl, _, _, rfl, rfl, ?_⟩
          have l4 : Lp K C dx x p Hs H y1 y2 kvs dv (((ρ2.set 4 (some (.val a))).set 5 (some (.val b))).set 3 (some (.val c))) (((σ2.set 4 (some w1)).set 5 (some w2)).set 3 (some w3)) Hs3 H' := by
            refine ⟨⟨((l3.m.st.set (s := .val a) s1).set (s := .val b) s2).set (s := .val c) s3, l3.m.keep, l3.m.hs, l3.m.new, l3.m.nx, l3.m.obj⟩, by simpa using l3.len, ?_, l3.hp, l3.h0, l3.ne, l3.at_, l3.r⟩
            rw [List.getElem?_set_ne (by decide), List.getElem?_set_ne (by decide), List.getElem?_set_ne (by decide)]
            exact l3.self
          have no4 := no_set (j := 3) (d := c) (no_set (j := 5) (d := b) (no_set (j := 4) (d := a) no2))
          obtain ⟨f3, f4, f5⟩ := var6 (a := a) (b := b) (c := c) l3.len
          refine ⟨_, _, c, l4.m.st, f3, fun yv H5 Hs5 g5 r5 => ?_⟩
          have l5 := l4.grow g5
          refine ⟨_, l5.self, x, C, dx, _, _, rfl, l5.m.obj, T.cl, n3, rfl, ?_⟩
          refine ⟨_, _, .tup [a, b], l5.m.st, ?_, fun yk H7 Hs7 g7 r7 => ?_⟩
          · show (aCons (fVar 4) (aCons (fVar 5) aNil) _).bind _ = _
            unfold aCons
            rw [f4, f5]
            rfl
          have l7 := l5.grow g7
          cases r7 with
          | @tup bb xs es hb rb =>
          have hx := keys_rep rb (ks := [ka, kb]) (by rw [List.mapM_cons, ea, List.mapM_cons, eb]; rfl)
          subst hx
          refine ⟨p, _, rfl, DPut.t l7.at_ (l7.m.st.sub _ _ hb) (by simpa using hz), ?_⟩
          obtain ⟨k1, k2⟩ := putK_rep (x := [ka, kb]) nd l7.r (r5.mono g7.hs)
          exact ⟨_, Hs7, _, _, l7.put no4 k2, sm3.trans (g5.hs.trans g7.hs), no4, by rw [k1]; exact e3⟩
        · left
          have hi' : i = ps.length := by lia
          subst hi'
          rw [List.drop_length] at e3
          cases e3
          refine ⟨stop (Nat.le_refl _), ?_⟩
          refine ⟨p, .dT (kvs.map (·.1)) _, .dT kvs, Hs2', l2.at_, .dT rfl l2.r, fun ob => ?_⟩
          refine k _ _ _ (l2.fin (.frz ob (.dT kvs))) (by rw [upd_ne (Ne.symm l2.ne)]; exact l2.m.obj) rfl ?_
          have s9 : Same Hs6 (upd Hs2' p (.frz ob (.dT kvs))) := (g9.hs.trans sm2).trans (sm_upd l2.hp)
          refine .cons (r4.mono (newOnly_nn nn2 (g6.hs.trans s9))) (.cons (r6.mono (newOnly_nn nn5 s9)) (.cons ?_ .nil))
          exact .dT (by rw [newOnly_at l2.h0]; exact upd_same) rfl (scals_rep l2.r hsc)
end
end CR
set_option maxHeartbeats 4000000
namespace DL
open PySem PySem.Spec L2
noncomputable def rSameT (K : PySem.W.Frag) : R2 := fun x y H Q => ∃ Hs ds, Same Hs H ∧ Rep K Hs (.tup ds) x ∧ Rep K Hs (.tup ds) y ∧ okT 8 (.tup ds) = true ∧ Q (.bl false) H
open SeqAt in
theorem o_neT {X : Cx} (hu : X.A.units + 64 < cLine) : OpR X (compareOp .NotEq) (rSameT X.K) := by
  intro pins s σ H x y v u Q I rx ry h
  obtain ⟨Hs, ds, sm, rd, re, ok, fin⟩ := h
  have hu0 : X.A.units < cLine := by lia
  have hu1 : X.A.in1.units + 7 < cLine := by show X.A.units + 1 + 7 < cLine; lia
  cases rd with
  | @tup a xs _ h1 r1 =>
  cases re with
  | @tup c ys _ h2 r2 =>
    cases rx
    cases ry
    obtain ⟨_, its, rv, e1⟩ := I.hok a _ (sm _ _ h1)
    obtain ⟨_, its2, qv, e2⟩ := I.hok c _ (sm _ _ h2)
    have l1 := r1.length
    have l2 := r2.length
    have l3 := rv.length
    have l4 := qv.length
    have ez : (its.toArray.size == its2.toArray.size) = true := by simp only [List.size_toArray]; simp; lia
    refine RcNeAt.tuples e1 e2 hu0 (e := fun _ => true) (sameEls (fun k r1 w1 r2 w2 => sameAt I.hok sm 7 X.A.in1 hu1 k r1 w1 r2 w2) (List.all_eq_true.mp (show ds.all (okT 7) = true from ok)) r1 r2 rv qv) _ _ _ _ ?_
    exact ⟨.bl _, H, I, by rw [all_true, ez]; rfl, fin⟩
end DL
set_option maxHeartbeats 4000000
namespace CR
open PySem PySem.Spec L2 DL PyProof.Rows
open Classical in
noncomputable def gNeT (x y : D) : Option D := match x, y with
  | .tup ds, .tup es => if ds = es ∧ okT 8 (.tup ds) = true then some (.bl false) else none
  | _, _ => none
theorem a_neT {K : PySem.W.Frag} : Op2 K (rSameT K) gNeT := by
  intro Hs H x y z u v Q s rx ry e q
  unfold gNeT at e
  split at e
  · split at e
    · rename_i ds es hc
      cases e
      obtain ⟨rfl, ok⟩ := hc
      exact ⟨Hs, ds, s, rx, ry, ok, q _ H Hs (Grow.refl s) (.bl _)⟩
    · cases e
  · cases e
noncomputable def g_lawB (C CB : Addr) : Fs :=
  (gSeq (gSet 13 (fIf (bTest (f2 gIs (fVar 10) (fC .non))) (fA (F_count_cuts C CB) (aCons (fVar 11) (aCons (fC (.str "a")) aNil))) (fC .non))) (gRet (fAnd (fA (F_Lwhole C CB) (aCons (fVar 13) aNil)) (f2 gEqS (fVar 13) (fA gLen (aCons (fComp 1 [] (iLst (fVar 1)) (tName 0) (bTest (f2 gEqS (f2 gIx (fVar 0) (fC (.int 0))) (fC (.str "a")))) (fVar 0)) aNil))))))
noncomputable def g_lawX (CB : Addr) : Fs := gSeq (gSet 13 (fAnd (f1 (gAns CB false true) (fVar 10)) (f1 (gAns CB false true) (fVar 10)))) (gRet (fAnd (fVar 13) (fNot (f1 (gAns CB false false) (fVar 10)))))
section
variable {P : Program} {w : World} {K : PySem.W.Frag} {mg : Str → Option Value} {base : Heap} {C CB CR C1 C2 : Addr}
noncomputable abbrev sc_lawB_0 : Scope := { kind := .function, names := [(Str.ofString ".0", NameKind.local), (Str.ofString "_law_word", NameKind.local)], isGenerator := false, isCoroutine := false, more := [] }
theorem S_lawB_0 : CScopeN (defScope s_law) [("_law_script" : Str), ("_law_words" : Str), ("_law_k" : Str), ("_law_number" : Str), ("_law_pairs" : Str), ("_law_one" : Str), ("_law_other" : Str), ("_law_good" : Str), ("_law_names" : Str), ("_law_handed" : Str), ("_law_kept" : Str), ("_law_made" : Str), ("e" : Str), ("_law_told" : Str)] sc_lawB_0 [("_law_word" : Str)] [] := ⟨rfl, by decide +kernel, by decide +kernel, by decide +kernel, by decide +kernel, by decide +kernel⟩
theorem t_lawB (T : Txt K mg C) (d__law_whole : Df P w K mg base 1 "_law_whole" ["_law_found"] (F_Lwhole C CB)) (d_count_cuts : Df P w K mg base 1 "count_cuts" ["words", "text"] (F_count_cuts C CB)) {f : Addr} (cdv : Value) (A : Around) (outer : List Env) (s : Shared) (H : Hp) (E : XK) (hr : Room (3) (A.deeper (PyProof.Rows.envOfC "law" (defScope s_law) s.heap.objs.size f cdv))) :
    PFSs (cxOf CX0 P w K mg base N_law "law" (defScope s_law) f cdv A outer s H E).nox K ((defBody s_law).drop 15) (g_lawB C CB) :=
  (pss_consF (ps_setF 13 fs_law.nd (pf_if (pt_cmpF op_isN a_is (pf_var 10) pf_non) (pf_call (d_count_cuts.mono (by decide)) hr rfl (pfa_cons (pf_var 11) (pfa_cons pf_str pfa_nil))) pf_non)) (pss_oneF (ps_retF (pf_and (pf_call (d__law_whole.mono (by decide)) hr rfl (pfa_cons (pf_var 13) pfa_nil)) (pf_one (pf_cmp o_eqS a_eqS (pf_var 13) (pf_callB call_len_seq a_len rfl T.b_len boot_len (pfa_cons (pf_comp rfl (S_lawB_0.at rfl rfl) (pi_listF (pf_var 1)) (fun s H pins fp => (pg_nameF 0 S_lawB_0.nd)) (fun s H pins fp => (if_one (pt_cmpF o_eqS a_eqS (pf_ix (pf_var 0) pf_int) pf_str))) (fun s H pins fp => (pf_var 0))) pfa_nil))))))))
theorem PFSsP {X : Cx} {K : PySem.W.Frag} {sts : List Stmt} {g : Fs} (h : PFSs X K sts g) (hK : X.K = K) : PSs X sts (tFS K g) := h hK
end
end CR
namespace L2
open PySem PySem.Spec
theorem execs_app (env : Env) (b : List Stmt) : ∀ (a : List Stmt), execs (a ++ b) env = (execs a env >>= fun f => match f with | .next => execs b env | f => pure f)
  | [] => by
    have e : execs [] env = pure .next := by simp [execs]
    rw [List.nil_append, e, pure_bind]
  | st :: a => by
    rw [List.cons_append, execs_cons, execs_cons, bind_assoc]
    congr 1
    funext f
    cases f with
    | next => exact execs_app env b a
    | _ => exact (pure_bind _ _).symm
theorem pss_app {X : Cx} {u : TS} {b : List Stmt} (h2 : PSs X b u) {a : List Stmt} {t : TS} (h1 : PSs X a t) : PSs X (a ++ b) (tSeq t u) := by
  intro pins s σ H D I h
  rw [execs_app]
  refine wpAny_bind (thn (h1 pins s σ H { D with nx := u D } I h) fun f s1 q => ?_)
  cases f with
  | next =>
    obtain ⟨σ', H', I', q⟩ := q
    exact h2 pins s1 σ' H' D I' q
  | ret v => exact wpAny_pure q
  | brk => exact wpAny_pure q
  | cont => exact wpAny_pure q
end L2
set_option maxHeartbeats 4000000
namespace CR
open PySem PySem.Spec L2 DL PyProof.Rows
noncomputable def FL : List D → Option D
  | [.scr _] => some (.bl true)
  | _ => none
noncomputable abbrev spLaw (K : PySem.W.Frag) : Sp := spF K FL
noncomputable abbrev R8 (ns : List Int) (ws ps : List D) (good : Bool) (x2 x3 x5 x6 x8 x9 x10 x11 x12 x13 : Option Sl) : Rho := [some (.val (.scr ns)), some (.val (.lst ws)), x2, x3, some (.val (.lst ps)), x5, x6, some (.val (.bl good)), x8, x9, x10, x11, x12, x13]
noncomputable def LawData (C CB : Addr) (ns : List Int) : Prop := ∃ (ws ps : List D) (good : Bool) (x2 x3 x5 x6 x8 : Option Sl),
  g_law C CB (startR N_law [.scr ns]) = some (.nx (R8 ns ws ps good x2 x3 x5 x6 x8 none none none none none)) ∧ (∀ (i : Nat) (o : Ow), (R8 ns ws ps good x2 x3 x5 x6 x8 none none none none none)[i]? ≠ some (some (.ow o))) ∧ ps.length ≤ 100 ∧ okT 8 (.tup [.lst ws, .lst ps]) = true ∧
  (good = false → FM_Words C CB [.lst ws, .lst ps] = some (.inr CB)) ∧
  (good = true → ∃ fds, FM_Words C CB [.lst ws, .lst ps] = some (.inl fds) ∧ g_lawB C CB (R8 ns ws ps true x2 x3 x5 x6 x8 none (some (.val .non)) (some (.val (.ins C ns_Words fds))) none none) = some (.rt (.bl true)))
theorem gNeT_eq {ds : List D} (h : okT 8 (.tup ds) = true) : gNeT (.tup ds) (.tup ds) = some (.bl false) := if_pos ⟨rfl, h⟩
theorem gAns_eq {CB : Addr} {bn be : Bool} : gAns CB bn be (.exc CB) = some (.bl be) := if_pos rfl
theorem ev_lawX {CB : Addr} {ns : List Int} {ws ps : List D} {good : Bool} {x2 x3 x5 x6 x8 x9 x11 x12 x13 : Option Sl} : g_lawX CB (R8 ns ws ps good x2 x3 x5 x6 x8 x9 (some (.val (.exc CB))) x11 x12 x13) = some (.rt (.bl true)) := by
  have e1 : ∀ bn be x13, f1 (gAns CB bn be) (fVar 10) (R8 ns ws ps good x2 x3 x5 x6 x8 x9 (some (.val (.exc CB))) x11 x12 x13) = some (.bl be) := fun bn be x13 => gAns_eq (bn := bn)
  have e2 : fAnd (f1 (gAns CB false true) (fVar 10)) (f1 (gAns CB false true) (fVar 10)) (R8 ns ws ps good x2 x3 x5 x6 x8 x9 (some (.val (.exc CB))) x11 x12 x13) = some (.bl true) := by
    unfold fAnd
    rw [e1]
  refine (gSeq_nx (ρ' := R8 ns ws ps good x2 x3 x5 x6 x8 x9 (some (.val (.exc CB))) x11 x12 (some (.val (.bl true)))) ((gSet_eq e2).trans rfl)).trans ?_
  refine gRet_eq ?_
  unfold fAnd fNot
  rw [e1]
  rfl
theorem del2 {H Hs : Hp} {b1 b2 : Addr} (h1 : Hs b1 = none) (h2 : Hs b2 = none) {Hs' : Hp} (s : Same Hs Hs') : Same Hs (DL.del (DL.del Hs' b1) b2) := fun b o e => by
  rw [del_ne (ne_of_none e h2), del_ne (ne_of_none e h1)]
  exact s b o e
theorem del2_sub {Hs H : Hp} {b1 b2 : Addr} (s : Same Hs H) : Same (DL.del (DL.del Hs b1) b2) H := fun b o e => by
  by_cases z : b = b2
  · rw [z, del_at] at e; cases e
  · rw [del_ne z] at e
    by_cases z1 : b = b1
    · rw [z1, del_at] at e; cases e
    · rw [del_ne z1] at e
      exact s b o e
section
variable {P : Program} {w : World} {K : PySem.W.Frag} {mg : Str → Option Value} {base : Heap} {C CB CR C1 C2 : Addr}
theorem ok_law {f : Addr} {fd : FuncData} (U : Fun K "law" "law" s_law f fd) (T : Txt K mg C) (V : Exn K mg base CB CR C1 C2) {fw : Addr} {fdw : FuncData} (M : Mk K C fw) (F : FnOk P w K mg base (CX1 P w) 2 fw fdw ps_Words (spMkN K C ns_Words (FM_Words C CB))) (hb : Binds K fdw ps_Words []) (hm : mg "Words" = some (.ref C))
    (d__law_mix : Df P w K mg base 2 "_law_mix" ["_law_script", "_law_k"] F_Lmix) (d__law_whole : Df P w K mg base 1 "_law_whole" ["_law_found"] (F_Lwhole C CB)) (d_count_cuts : Df P w K mg base 1 "count_cuts" ["words", "text"] (F_count_cuts C CB)) (dat : ∀ ns, LawData C CB ns) :
    FnOk P w K mg base CX0 4 f fd ["_law_script"] (spLaw K) := by
  refine U.ok fs_law (fun vs H Q E ⟨Hs, ds, d, s, r, e, q⟩ => by
    rw [← r.length]
    unfold FL at e
    split at e
    · rfl
    · cases e) fun cdv A outer s H vs Q E hr ⟨Hs, ds, d, sm, r, e, q⟩ => ?_
  unfold FL at e
  split at e
  case h_2 => cases e
  rename_i ns
  cases e
  have hp := pss_app (X := (cxOf CX0 P w K mg base N_law "law" (defScope s_law) f cdv A outer s H E).nox) (b := (defBody s_law).drop 8) (
    pss_cons (ps_set (i := 9) fs_law.nd rfl (by first | exact Or.inl rfl | exact Or.inr rfl) (pe_tup (pa_cons (pe_callTy call_list_of rfl T.b_list boot_list (pa_cons (pv 1) pa_nil)) (pa_cons (pe_callTy call_list_of rfl T.b_list boot_list (pa_cons (pv 4) pa_nil)) pa_nil))) rfl)
    (pss_cons (ps_set (i := 10) fs_law.nd rfl (by first | exact Or.inl rfl | exact Or.inr rfl) (PFpe (K := K) pf_non rfl) rfl)
    (pss_cons (ps_set (i := 11) fs_law.nd rfl (by first | exact Or.inl rfl | exact Or.inr rfl) (PFpe (K := K) pf_non rfl) rfl)
    (pss_cons (ps_tryMake (i := 11) (j := 12) rfl rfl M F hr hb rfl hm ((pfa_cons (K := K) (pf_ix (pf_var 9) pf_int) (pfa_cons (pf_ix (pf_var 9) pf_int) pfa_nil)) rfl) rfl V.e_ReadError fs_law.nd rfl (by first | exact Or.inl rfl | exact Or.inr rfl) rfl rfl
        (fun a => pss_one (ps_set (X := ((cxOf CX0 P w K mg base N_law "law" (defScope s_law) f cdv A outer s H E).nox).hand a) (i := 10) fs_law.nd rfl (.inl rfl) (pe_var (X := ((cxOf CX0 P w K mg base N_law "law" (defScope s_law) f cdv A outer s H E).nox).hand a) (i := 12) rfl (.inl rfl) (by decide) (by decide)) rfl (.inr rfl))))
    (pss_cons (ps_if ((PFW.pt (pw_orF (pt_notF (pt_truF (pf_var 7))) (pw_or1F (pt_cmpF (o_neT hr.units) a_neT (pf_var 9) (pf_tup (pfa_cons (pf_var 1) (pfa_cons (pf_var 4) pfa_nil))))))) (rfl : K = K))
        (PFSsP (K := K) (g := g_lawX CB) (pss_consF (ps_setF 13 fs_law.nd (pf_and (pf_instX V.ik_BadWords rfl T.b_isinstance (pe_glob (v := .ref CB) rfl V.e_BadWords rfl) (fun u r => r) (pf_var 10)) (pf_one (pf_instX V.ik_ValueError rfl T.b_isinstance (pe_bltn (v := .ty "ValueError") rfl T.b_ValueError boot_ValueError rfl) (fun u r => r) (pf_var 10)))))
          (pss_oneF (ps_retF (pf_and (pf_var 13) (pf_one (pf_not (pf_instX2 V.ik_BadChain_BadGrammar rfl T.b_isinstance (pe_glob rfl V.e_BadChain rfl) (pe_glob rfl V.e_BadGrammar rfl) (pf_var 10)))))))) rfl) pss_nil)
    (pss_cons (ps_expr (pe_bm0 (name := "clear") PySem.F.plainAttrs_list PySem.F.slot_list_clear PySem.F.type_list_clear mt_clear (pe_ix ix_tup (pv 9) (PFpe (K := K) pf_int rfl) (by intro _ _; rfl)) rfl rfl) rfl)
    (pss_cons (ps_expr (pe_bm (name := "append") PySem.F.plainAttrs_list PySem.F.slot_list_append PySem.F.type_list_append mt_append (pe_ix ix_tup (pv 9) (PFpe (K := K) pf_int rfl) (by intro _ _; rfl)) (pa_cons (PFpe (K := K) (pf_tup (pfa_cons pf_int (pfa_cons pf_int (pfa_cons pf_int pfa_nil)))) rfl) pa_nil) rfl rfl rfl rfl rfl) rfl)
    (t_lawB T d__law_whole d_count_cuts cdv A outer s H E hr rfl))))))))
    (t_law (CB := CB) T d__law_mix cdv A outer s H E hr rfl)
  rw [List.take_append_drop] at hp
  refine ⟨_, hp, ?_⟩
  clear hp
  obtain ⟨ws, ps, good, x2, x3, x5, x6, x8, e0, nw, hps, hok, hbad, hgood⟩ := dat ns
  have fin : ∀ v H2 Hs2, Grow Hs H Hs2 H2 → Rep K Hs2 (.bl true) v → Q v H2 := q
  clear q
  refine ⟨Hs, H, _, Hs, _, start_st sm r (by show 1 ≤ 14; decide), e0, fun σ1 H1 Hs1 s1 sm1 => ?_⟩
  clear e0 sm sm1 r
  obtain ⟨v1, hv1, rv1⟩ := s1.st.slot 1 (.val (.lst ws)) rfl
  obtain ⟨v4, hv4, rv4⟩ := s1.st.slot 4 (.val (.lst ps)) rfl
  have rv1' : Rep K Hs1 (.lst ws) v1 := rv1
  have rv4' : Rep K Hs1 (.lst ps) v4 := rv4
  obtain ⟨p1, xs, rfl, hp1, rx⟩ : ∃ p1 xs, v1 = .ref p1 ∧ Hs1 p1 = some (.lst xs) ∧ Reps K Hs1 ws xs := by
    cases rv1' with
    | @lst p1 xs _ h r => exact ⟨p1, xs, rfl, h, r⟩
  obtain ⟨p4, ys, rfl, hp4, ry⟩ : ∃ p4 ys, v4 = .ref p4 ∧ Hs1 p4 = some (.lst ys) ∧ Reps K Hs1 ps ys := by
    cases rv4' with
    | @lst p1 xs _ h r => exact ⟨p1, xs, rfl, h, r⟩
  refine ⟨_, hv1, p1, xs, rfl, .inl (SqL.of (s1.st.sub _ _ hp1)), fun b1 hb1 => ?_⟩
  have g1 := Grow.alloc (o := .lst xs) s1.st.sub hb1
  refine ⟨_, hv4, p4, ys, rfl, .inl (SqL.of (g1.sub _ _ (g1.hs _ _ hp4))), fun b2 hb2 => ⟨(by show 2 ≤ sizeLine; decide), fun a ha => ?_⟩⟩
  have g2 := Grow.alloc (o := .lst ys) g1.sub hb2
  have g3 := Grow.alloc (o := .tup [.ref b1, .ref b2]) g2.sub ha
  have gA := (g1.trans g2).trans g3
  have ne12 : b2 ≠ b1 := fun z => by rw [z, upd_same] at hb2; cases hb2
  have nea1 : a ≠ b1 := fun z => by rw [z, upd_ne (Ne.symm ne12), upd_same] at ha; cases ha
  have nea2 : a ≠ b2 := fun z => by rw [z, upd_same] at ha; cases ha
  have hb2' : H1 b2 = none := by rw [upd_ne ne12] at hb2; exact hb2
  have l1 : upd (upd (upd Hs1 b1 (.lst xs)) b2 (.lst ys)) a (.tup [.ref b1, .ref b2]) b1 = some (.lst xs) := by rw [upd_ne (Ne.symm nea1), upd_ne (Ne.symm ne12), upd_same]
  have l2 : upd (upd (upd Hs1 b1 (.lst xs)) b2 (.lst ys)) a (.tup [.ref b1, .ref b2]) b2 = some (.lst ys) := by rw [upd_ne (Ne.symm nea2), upd_same]
  have s2 := (s1.grow gA).set (i := 9) (d := .tup [.lst ws, .lst ps]) (v := .ref a) (.tup upd_same (.cons (.lst l1 (rx.mono gA.hs)) (.cons (.lst l2 (ry.mono gA.hs)) .nil)))
  refine ⟨_, _, .non, s2.st, rfl, fun u10 H3 Hs3 g4 r10 => ?_⟩
  have s3 := (s2.grow g4).set (i := 10) r10
  refine ⟨_, _, .non, s3.st, rfl, fun u11 H4 Hs4 g5 r11 => ?_⟩
  have s4 := (s3.grow g5).set (i := 11) r11
  refine ⟨_, _, [.lst ws, .lst ps], s4.st, rfl, fun us H5 Hs5 g6 ru => ?_⟩
  intro y dy ny ndy nyd
  have gB := ((gA.trans g4).trans g5).trans g6
  have k1 : Hs5 b1 = some (.lst xs) := g6.hs _ _ (g5.hs _ _ (g4.hs _ _ l1))
  have k2 : Hs5 b2 = some (.lst ys) := g6.hs _ _ (g5.hs _ _ (g4.hs _ _ l2))
  have k3 : Hs5 a = some (.tup [.ref b1, .ref b2]) := g6.hs _ _ (g5.hs _ _ (g4.hs _ _ upd_same))
  have s5 := s4.grow g6
  cases good with
  | false =>
    refine ⟨y, dy, Hs5, _, us, .inr CB, rfl, upd_same, g6.sub.free ny, mk_same g6 ny ndy, ru, hbad rfl, ?_⟩
    intro H' Hs' m hu
    refine ⟨CB, rfl, V.exm, fun aa hna => ?_⟩
    have gX := mk_exc (B := CB) g6 ny ndy m hna
    have hjl : 12 < (((σ1.set 9 (some (.ref a))).set 10 (some u10)).set 11 (some u11)).length := by rw [← s4.st.len]; show 12 < 14; decide
    refine ⟨.ref aa, by rw [List.getElem?_set, if_pos rfl, if_pos hjl], ⟨.ref aa, ?_⟩, ?_⟩
    · rw [List.getElem?_set_ne (by decide), List.getElem?_set, if_pos rfl, if_pos hjl]
    · have s6 := ((s4.grow gX).set (i := 10) (d := .exc CB) (v := .ref aa) (.exc upd_same)).unset (j := 12)
      rw [show ((((((σ1.set 9 (some (.ref a))).set 10 (some u10)).set 11 (some u11)).set 12 (some (.ref aa))).set 10 (some (.ref aa))).set 12 none) = (((((σ1.set 9 (some (.ref a))).set 10 (some u10)).set 11 (some u11)).set 10 (some (.ref aa))).set 12 none) by rw [List.set_comm _ _ (show (12 : Nat) ≠ 10 by decide), List.set_set]]
      refine ⟨_, _, true, s6.st, rfl, fun H7 Hs7 g7 => ?_⟩
      dsimp only
      rw [if_pos rfl]
      exact ⟨Hs, H, _, Hs7, .rt (.bl true), s6.grow g7, ev_lawX, fun v H8 Hs8 g8 r8 => fin v H8 Hs8 g8 r8⟩
  | true =>
    obtain ⟨fds, eFM, eB⟩ := hgood rfl
    refine ⟨y, dy, Hs5, _, us, .inl fds, rfl, upd_same, g6.sub.free ny, mk_same g6 ny ndy, ru, eFM, ?_⟩
    intro H' Hs' fv m hu hn rr
    refine ⟨rfl, ?_⟩
    have gM := mk_grow g6 ny ndy m hu
    have rM : Rep K (upd Hs' y (.ins C dy fv)) (.ins C ns_Words fds) (.ref y) := .ins (dx := dy) (fs := fv) upd_same hn ((rr.mono (newOnly_sub _ _)).mono (sm_upd m.nx))
    have s6 := (s4.grow gM).set (i := 11) rM
    have h14 : σ1.length = 14 := s1.st.len.symm
    have hσ9 : ((((σ1.set 9 (some (.ref a))).set 10 (some u10)).set 11 (some u11)).set 11 (some (.ref y)))[9]? = some (some (.ref a)) := by
      rw [List.getElem?_set_ne (by decide), List.getElem?_set_ne (by decide), List.getElem?_set_ne (by decide), List.getElem?_set, if_pos rfl, if_pos (by rw [h14]; decide)]
    refine ⟨_, _, false, s6.st, (rfl : _ = bTest (f2 gNeT (fVar 9) (fA gTup (aCons (fVar 1) (aCons (fVar 4) aNil)))) _).trans (bTest_eq ((f2_eq (x := .tup [.lst ws, .lst ps]) (y := .tup [.lst ws, .lst ps]) rfl rfl).trans (gNeT_eq hok))), fun H7 Hs7 g7 => ?_⟩
    dsimp only
    rw [if_neg Bool.false_ne_true]
    have s7 := s6.grow g7
    refine ⟨_, hσ9, _, _, .int 0, s7.st, rfl, fun yv H8 Hs8 g8 r8 => ?_⟩
    cases r8
    have s8 := s7.grow g8
    have q1 : Hs8 b1 = some (.lst xs) := g8.hs _ _ (g7.hs _ _ (gM.hs _ _ (g5.hs _ _ (g4.hs _ _ l1))))
    have q2 : Hs8 b2 = some (.lst ys) := g8.hs _ _ (g7.hs _ _ (gM.hs _ _ (g5.hs _ _ (g4.hs _ _ l2))))
    have q3 : Hs8 a = some (.tup [.ref b1, .ref b2]) := g8.hs _ _ (g7.hs _ _ (gM.hs _ _ (g5.hs _ _ (g4.hs _ _ upd_same))))
    refine ⟨a, [.ref b1, .ref b2], 0, .ref b1, rfl, rfl, SqT.of (s8.st.sub _ _ q3), rfl, .inl ⟨rfl, _, SqL.of (s8.st.sub _ _ q1)⟩, b1, xs, rfl, rfl, s8.st.sub _ _ q1, ?_⟩
    have f1 : H b1 = none := s1.gr.h.free hb1
    have f2 : H b2 = none := s1.gr.h.free hb2'
    have n1 : Hs1 b1 = none := s1.st.sub.free hb1
    have n2 : Hs1 b2 = none := s1.st.sub.free hb2'
    have sm8 : Same Hs1 Hs8 := fun b o e => g8.hs _ _ (g7.hs _ _ (gM.hs _ _ (g5.hs _ _ (g4.hs _ _ (gA.hs _ _ e)))))
    have d1 : DL.del (DL.del Hs8 b1) b2 b1 = none := by rw [del_ne (Ne.symm ne12), del_at]
    have d2 : DL.del (DL.del Hs8 b1) b2 b2 = none := del_at
    have sb9 : Same (DL.del (DL.del Hs8 b1) b2) (upd H8 b1 (.lst [])) := sm_updR (del2_sub s8.st.sub) d1
    have H5b1 : H5 b1 ≠ none := fun z => by rw [g6.sub _ _ k1] at z; cases z
    have H5b2 : H5 b2 ≠ none := fun z => by rw [g6.sub _ _ k2] at z; cases z
    have H5y1 : y ≠ b1 := fun z => H5b1 (by rw [← z]; exact ny)
    have H5y2 : y ≠ b2 := fun z => H5b2 (by rw [← z]; exact ny)
    have rM9 : Rep K (DL.del (DL.del Hs8 b1) b2) (.ins C ns_Words fds) (.ref y) := by
      refine .ins (dx := dy) (fs := fv) (by rw [del_ne H5y2, del_ne H5y1]; exact g8.hs _ _ (g7.hs _ _ upd_same)) hn (rr.mono fun b o e => ?_)
      unfold newOnly at e
      cases z : upd (upd H5 dy (.own y)) y (.ins C dy []) b with
      | some u => rw [z] at e; cases e
      | none =>
        rw [z] at e
        have ny2 : b ≠ y := fun q => by rw [q, upd_same] at z; cases z
        rw [upd_ne ny2] at z
        have nd2 : b ≠ dy := fun q => by rw [q, upd_same] at z; cases z
        rw [upd_ne nd2] at z
        rw [del_ne (fun q => H5b2 (by rw [← q]; exact z)), del_ne (fun q => H5b1 (by rw [← q]; exact z))]
        exact g8.hs _ _ (g7.hs _ _ (sm_upd m.nx _ _ e))
    have nw9 : ∀ (i : Nat) (o : Ow), (R8 ns ws ps true x2 x3 x5 x6 x8 none (some (.val .non)) (some (.val (.ins C ns_Words fds))) none none)[i]? ≠ some (some (.ow o)) := fun i o e => by
      match i, e with
      | 0, e => exact nw 0 o e
      | 1, e => exact nw 1 o e
      | 2, e => exact nw 2 o e
      | 3, e => exact nw 3 o e
      | 4, e => exact nw 4 o e
      | 5, e => exact nw 5 o e
      | 6, e => exact nw 6 o e
      | 7, e => exact nw 7 o e
      | 8, e => exact nw 8 o e
      | 9, e => cases e
      | 10, e => cases e
      | 11, e => cases e
      | 12, e => cases e
      | 13, e => cases e
    have low : ∀ (i : Nat) (sl : Sl), i < 9 → (R8 ns ws ps true x2 x3 x5 x6 x8 none none none none none)[i]? = some (some sl) → ∃ v, ((((σ1.set 9 (some (.ref a))).set 10 (some u10)).set 11 (some u11)).set 11 (some (.ref y)))[i]? = some (some v) ∧ SlRep K (DL.del (DL.del Hs8 b1) b2) (upd H8 b1 (.lst [])) sl v := fun i sl hi e => by
      obtain ⟨v, h1, h2⟩ := s1.st.slot i sl e
      refine ⟨v, ?_, ?_⟩
      · rw [List.getElem?_set_ne (by omega), List.getElem?_set_ne (by omega), List.getElem?_set_ne (by omega), List.getElem?_set_ne (by omega)]
        exact h1
      · cases sl with
        | val d => exact Rep.mono (del2 (H := H) n1 n2 sm8) h2
        | ow o => exact absurd e (nw i o)
    have st9 : StE K (DL.del (DL.del Hs8 b1) b2) (upd H8 b1 (.lst [])) (R8 ns ws ps true x2 x3 x5 x6 x8 none (some (.val .non)) (some (.val (.ins C ns_Words fds))) none none) ((((σ1.set 9 (some (.ref a))).set 10 (some u10)).set 11 (some u11)).set 11 (some (.ref y))) := by
      refine ⟨sb9, by simp [h14], fun i sl e => ?_⟩
      match i, e with
      | 0, e => exact low 0 sl (by decide) e
      | 1, e => exact low 1 sl (by decide) e
      | 2, e => exact low 2 sl (by decide) e
      | 3, e => exact low 3 sl (by decide) e
      | 4, e => exact low 4 sl (by decide) e
      | 5, e => exact low 5 sl (by decide) e
      | 6, e => exact low 6 sl (by decide) e
      | 7, e => exact low 7 sl (by decide) e
      | 8, e => exact low 8 sl (by decide) e
      | 9, e => cases e
      | 10, e =>
        cases e
        refine ⟨u10, ?_, scal_rep r10 rfl⟩
        rw [List.getElem?_set_ne (by decide), List.getElem?_set_ne (by decide), List.getElem?_set, if_pos rfl, if_pos (by rw [List.length_set, h14]; decide)]
      | 11, e =>
        cases e
        refine ⟨.ref y, ?_, rM9⟩
        rw [List.getElem?_set, if_pos rfl, if_pos (by rw [List.length_set, List.length_set, List.length_set, h14]; decide)]
      | 12, e => cases e
      | 13, e => cases e
    have gr9 : Grow Hs H (DL.del (DL.del Hs8 b1) b2) (upd H8 b1 (.lst [])) := by
      refine ⟨fun b o e => del2 (H := H) n1 n2 sm8 b o (s1.gr.hs b o e), fun b o e => ?_, sb9, fun b hb e => ?_⟩
      · rw [upd_ne (ne_of_none e f1)]; exact s8.gr.h b o e
      · refine s8.gr.new b (fun z => hb ?_) e
        by_cases z2 : b = b2
        · rw [z2]; exact del_at
        · rw [del_ne z2]
          by_cases z1 : b = b1
          · rw [z1]; exact del_at
          · rw [del_ne z1]; exact z
    refine ⟨_, hσ9, _, _, .int 1, st9, rfl, fun yw H10 Hs10 g10 r10' => ?_⟩
    cases r10'
    have e10a : H10 a = some (.tup [.ref b1, .ref b2]) := g10.h _ _ (by rw [upd_ne nea1]; exact s8.st.sub _ _ q3)
    have e10b : H10 b2 = some (.lst ys) := g10.h _ _ (by rw [upd_ne ne12]; exact s8.st.sub _ _ q2)
    refine ⟨a, [.ref b1, .ref b2], 1, .ref b2, rfl, rfl, SqT.of e10a, rfl, .inl ⟨rfl, _, SqL.of e10b⟩, _, _, _, st9.grow g10, rfl, fun yt H11 Hs11 g11 _ => ?_⟩
    have e11b : H11 b2 = some (.lst ys) := g11.h _ _ e10b
    have n11 : Hs11 b2 = none := by
      cases z : Hs11 b2 with
      | none => rfl
      | some o =>
        have z2 := (g10.trans g11).new b2 (by rw [z]; simp) d2
        rw [upd_ne ne12, s8.st.sub _ _ q2] at z2; cases z2
    have hlt : ys.length < sizeLine := by
      have h0 := ry.length
      have h1 : (1000 : Nat) ≤ sizeLine := by decide
      omega
    refine ⟨b2, ys, yt, rfl, rfl, e11b, hlt, ?_⟩
    have st11 := (st9.grow g10).grow g11
    have gr11 := (gr9.trans g10).trans g11
    refine ⟨Hs, H, _, Hs11, _, ⟨⟨sm_updR st11.sub n11, st11.len, fun i sl e => ?_⟩, ⟨gr11.hs, fun b o e => by rw [upd_ne (ne_of_none e f2)]; exact gr11.h b o e, sm_updR st11.sub n11, gr11.new⟩, fun i o _ e _ => absurd e (nw9 i o), fun i j o _ _ e _ _ _ => absurd e (nw9 i o)⟩, eB, fun v H12 Hs12 g12 r12 => fin v H12 Hs12 g12 r12⟩
    obtain ⟨v, h1, h2⟩ := st11.slot i sl e
    cases sl with
    | val d => exact ⟨v, h1, h2⟩
    | ow o => exact absurd e (nw9 i o)
end
end CR
set_option maxHeartbeats 1000000
namespace CR
open PySem PySem.Spec L2 DL
variable {C CB : Addr}
theorem sl1 : 1000 ≤ sizeLine := by decide
noncomputable abbrev Wd := Str × Int
noncomputable abbrev Pr := (Int × Int) × Int
noncomputable def encW (p : Wd) : D := .tup [.str p.1, .int p.2]
noncomputable def encPr (p : Pr) : D := .tup [.int p.1.1, .int p.1.2, .int p.2]
theorem gTup_eq {ds : List D} (h : ds.length ≤ 1000) : gTup ds = some (.tup ds) := if_pos (Nat.le_trans h sl1)
theorem mod_in {a m : Int} (h : 0 < m) : 0 ≤ a % m ∧ a % m < m := ⟨Int.emod_nonneg _ (by lia), Int.emod_lt_of_pos _ h⟩
theorem gMod_eq {a m : Int} (h : 0 < m) : gMod (.int a) (.int m) = some (.int (a % m)) := if_pos h
theorem gFdiv_eq {a m : Int} (h : 0 < m ∧ m < 1073741824) : gFdiv (.int a) (.int m) = some (.int (a / m)) := if_pos h
theorem dm_eq {f h : Fe} {ρ : Rho} {n a m : Int} (e1 : f ρ = some (.int n)) (e2 : h ρ = some (.int m)) (ha : 0 < a ∧ a < 1073741824) (hm : 0 < m) : f2 gMod (f2 gFdiv f (fC (.int a))) h ρ = some (.int (n / a % m)) :=
  (f2_eq ((f2_eq e1 rfl).trans (gFdiv_eq ha)) e2).trans (gMod_eq hm)
theorem atI_in {α : Type} {xs : List α} (f : α → D) {i : Int} (h0 : 0 ≤ i) (h1 : i < xs.length) : ∃ c, c ∈ xs ∧ atI (xs.map f) i = some (f c) := by
  have hl : i.toNat < xs.length := by lia
  refine ⟨xs[i.toNat], List.getElem_mem _, ?_⟩
  have := atI_nat (xs := xs.map f) (j := i.toNat) (v := f xs[i.toNat]) (by rw [List.getElem?_map, List.getElem?_eq_getElem hl]; rfl)
  rwa [Int.toNat_of_nonneg h0] at this
theorem mixE {f h : Fe} {ρ : Rho} {ns : List Int} {k : Int} (e1 : f ρ = some (.scr ns)) (e2 : h ρ = some (.int k)) : fA F_Lmix (aCons f (aCons h aNil)) ρ = some (.int (mixN ns k)) := (fA_eq (ds := [.scr ns, .int k]) (aCons_eq e1 (aCons_eq e2 rfl))).trans rfl
theorem mixM {f h : Fe} {ρ : Rho} {ns : List Int} {k m : Int} (e1 : f ρ = some (.scr ns)) (e2 : h ρ = some (.int k)) (hm : 0 < m) : f2 gMod (fA F_Lmix (aCons f (aCons h aNil))) (fC (.int m)) ρ = some (.int (mixN ns k % m)) :=
  (f2_eq (mixE e1 e2) rfl).trans (gMod_eq hm)
noncomputable def aS (n : Int) : Str := repS "a" n.toNat
noncomputable def eight : List Int := [1, 2, 1, 12, 3, 5, 0, 13]
noncomputable abbrev iW : Fi := (iRng (f2 gIx (fA gLst (aCons (fC (.int 0)) (aCons (fC (.int 1)) (aCons (fC (.int 2)) (aCons (fC (.int 5)) (aCons (fC (.int 29)) (aCons (fC (.int 30)) (aCons (fC (.int 31)) aNil)))))))) (f2 gMod (fA F_Lmix (aCons (fVar 0) (aCons (fC (.int 0)) aNil))) (fC (.int 7)))))
noncomputable abbrev bW : Fs := (gSeq (gSet 3 (fA F_Lmix (aCons (fVar 0) (aCons (f2 gAdd (fC (.int 1)) (fVar 2)) aNil)))) (gApp 1 (fA gTup (aCons (f2 gMulS (fC (.str "a")) (f2 gIx (fA gLst (aCons (fC (.int 1)) (aCons (fC (.int 2)) (aCons (fC (.int 1)) (aCons (fC (.int 12)) (aCons (fC (.int 3)) (aCons (fC (.int 5)) (aCons (fC (.int 0)) (aCons (fC (.int 13)) aNil))))))))) (f2 gAdd (f2 gMod (fVar 3) (fC (.int 6))) (f2 gMul (fA gIntB (aCons (f2 gEqS (f2 gMod (f2 gFdiv (fVar 3) (fC (.int 6))) (fC (.int 40))) (fC (.int 0))) aNil)) (fC (.int 2)))))) (aCons (f2 gMod (f2 gFdiv (fVar 3) (fC (.int 240))) (fC (.int 9))) aNil)))))
noncomputable abbrev bP : Fs := (gSeq (gSet 3 (fA F_Lmix (aCons (fVar 0) (aCons (f2 gAdd (fC (.int 34)) (fVar 2)) aNil)))) (gSeq (gSet 5 (f2 gMod (fVar 3) (fA gMax (aCons (fC (.int 1)) (aCons (fLenOwn 1) aNil))))) (gSeq (gSet 6 (f2 gMod (f2 gFdiv (fVar 3) (fC (.int 31))) (fA gMax (aCons (fC (.int 1)) (aCons (fLenOwn 1) aNil))))) (gSeq (gIf (bTest (f2 gEqS (f2 gMod (f2 gFdiv (fVar 3) (fC (.int 961))) (fC (.int 12))) (fC (.int 0)))) (gSet 5 (f2 gIx (fA gLst (aCons (f1 gNeg (fC (.int 1))) (aCons (fLenOwn 1) (aCons (fC (.int 700)) aNil)))) (f2 gMod (f2 gFdiv (fVar 3) (fC (.int 11532))) (fC (.int 3))))) gNext) (gApp 4 (fA gTup (aCons (fVar 5) (aCons (fVar 6) (aCons (f2 gMod (f2 gFdiv (fVar 3) (fC (.int 1000))) (fC (.int 3))) aNil)))))))))
noncomputable abbrev wA : Fs := (gSet 3 (fA F_Lmix (aCons (fVar 0) (aCons (f2 gAdd (fC (.int 1)) (fVar 2)) aNil))))
noncomputable abbrev wB : Fs := (gApp 1 (fA gTup (aCons (f2 gMulS (fC (.str "a")) (f2 gIx (fA gLst (aCons (fC (.int 1)) (aCons (fC (.int 2)) (aCons (fC (.int 1)) (aCons (fC (.int 12)) (aCons (fC (.int 3)) (aCons (fC (.int 5)) (aCons (fC (.int 0)) (aCons (fC (.int 13)) aNil))))))))) (f2 gAdd (f2 gMod (fVar 3) (fC (.int 6))) (f2 gMul (fA gIntB (aCons (f2 gEqS (f2 gMod (f2 gFdiv (fVar 3) (fC (.int 6))) (fC (.int 40))) (fC (.int 0))) aNil)) (fC (.int 2)))))) (aCons (f2 gMod (f2 gFdiv (fVar 3) (fC (.int 240))) (fC (.int 9))) aNil))))
noncomputable abbrev pS0 : Fs := (gSet 3 (fA F_Lmix (aCons (fVar 0) (aCons (f2 gAdd (fC (.int 34)) (fVar 2)) aNil))))
noncomputable abbrev pS1 : Fs := (gSet 5 (f2 gMod (fVar 3) (fA gMax (aCons (fC (.int 1)) (aCons (fLenOwn 1) aNil)))))
noncomputable abbrev pS2 : Fs := (gSet 6 (f2 gMod (f2 gFdiv (fVar 3) (fC (.int 31))) (fA gMax (aCons (fC (.int 1)) (aCons (fLenOwn 1) aNil)))))
noncomputable abbrev pS3 : Fs := (gIf (bTest (f2 gEqS (f2 gMod (f2 gFdiv (fVar 3) (fC (.int 961))) (fC (.int 12))) (fC (.int 0)))) (gSet 5 (f2 gIx (fA gLst (aCons (f1 gNeg (fC (.int 1))) (aCons (fLenOwn 1) (aCons (fC (.int 700)) aNil)))) (f2 gMod (f2 gFdiv (fVar 3) (fC (.int 11532))) (fC (.int 3))))) gNext)
noncomputable abbrev pS4 : Fs := (gApp 4 (fA gTup (aCons (fVar 5) (aCons (fVar 6) (aCons (f2 gMod (f2 gFdiv (fVar 3) (fC (.int 1000))) (fC (.int 3))) aNil)))))
noncomputable abbrev gG1 : Fs := (gSet 7 (fAnd (f2 gLe (fA gLen (aCons (fVar 1) aNil)) (fC (.int 30))) (fA gAll (aCons (fComp 1 [] (iLst (fVar 1)) (tName 0) bTrue (f3c gLe gLe (fC (.int 1)) (fA gLenS (aCons (f2 gIx (fVar 0) (fC (.int 0))) aNil)) (fC (.int 12)))) aNil))))
noncomputable abbrev gNm : Fs := (gSet 8 (fComp 1 [] (iLst (fVar 4)) (tName 0) bTrue (fSlT (fVar 0) oNone (oSome (fC (.int 2))))))
noncomputable abbrev gG2 : Fs := (gSet 7 (fAnd (fVar 7) (f2 gEqS (f1 gLenSet (fVar 8)) (fA gLen (aCons (fVar 8) aNil)))))
noncomputable abbrev gG3 : Fs := (gSet 7 (fAnd (fVar 7) (fA gAll (aCons (fComp 1 [(("_law_words" : Str), 1)] (iLst (fVar 8)) (tName 0) bTrue (fAnd (f2 gLe (fC (.int 0)) (fA gMinP (aCons (fVar 0) aNil))) (f2 gLt (fA gMaxP (aCons (fVar 0) aNil)) (fA gLen (aCons (fVar 1) aNil))))) aNil))))
noncomputable abbrev RW (ns : List Int) (us : List Wd) (x2 x3 : Option Sl) : Rho := [some (.val (.scr ns)), some (.own (us.map encW)), x2, x3, none, none, none, none, none, none, none, none, none, none]
theorem loop_W {ns : List Int} : ∀ (js : List Nat) (us : List Wd) (x2 x3 : Option Sl), us.length + js.length ≤ 100 → (∀ u ∈ us, ∃ n ∈ eight, u.1 = aS n) → (∀ o, x2 ≠ some (.ow o)) → (∀ o, x3 ≠ some (.ow o)) →
    ∃ (ws : List Wd) (y2 y3 : Option Sl), ws.length = us.length + js.length ∧ (∀ u ∈ ws, ∃ n ∈ eight, u.1 = aS n) ∧ (∀ o, y2 ≠ some (.ow o)) ∧ (∀ o, y3 ≠ some (.ow o)) ∧ loopD (tName 2) bW (js.map fun (j : Nat) => D.int (j : Int)) (RW ns us x2 x3) = some (.nx (RW ns ws y2 y3))
  | [], us, x2, x3, _, hu, h2, h3 => ⟨us, x2, x3, by simp, hu, h2, h3, rfl⟩
  | j :: js, us, x2, x3, hl, hu, h2, h3 => by
    have sl' := sl1
    have hl' : us.length + (js.length + 1) ≤ 100 := hl
    obtain ⟨N, hN⟩ : ∃ N, N = mixN ns (1 + (j : Int)) := ⟨_, rfl⟩
    have m6 := mod_in (a := N) (m := 6) (by decide)
    have mb : (0 : Int) ≤ (if decide (N / 6 % 40 = 0) then 1 else 0) ∧ (if decide (N / 6 % 40 = 0) then (1 : Int) else 0) ≤ 1 := by split <;> decide
    obtain ⟨t, ht, et⟩ := atI_in (xs := eight) D.int (i := N % 6 + (if decide (N / 6 % 40 = 0) then 1 else 0) * 2) (by lia) (by show _ < (8 : Int); lia)
    have e1 : wA (RW ns us (some (.val (.int (j : Int)))) x3) = some (.nx (RW ns us (some (.val (.int (j : Int)))) (some (.val (.int N))))) := by
      rw [hN]
      exact gSet_eq (mixE rfl rfl)
    have tb : 0 ≤ t ∧ t ≤ 1000 := (show ∀ t ∈ eight, 0 ≤ t ∧ t ≤ 1000 by decide) t ht
    have e2 : wB (RW ns us (some (.val (.int (j : Int)))) (some (.val (.int N)))) = some (.nx (RW ns (us ++ [(aS t, N / 240 % 9)]) (some (.val (.int (j : Int)))) (some (.val (.int N))))) := by
      show _ = some (Out.nx [some (.val (.scr ns)), some (.own ((us ++ [(aS t, N / 240 % 9)]).map encW)), _, _, none, none, none, none, none, none, none, none, none, none])
      rw [List.map_append]
      refine gApp_eq (d := encW (aS t, N / 240 % 9)) (ds := us.map encW) ((fA_eq (aCons_eq ((f2_eq (x := .str "a") (y := .int t) rfl ?_).trans (if_pos ⟨rfl, tb⟩)) (aCons_eq (dm_eq rfl rfl (by decide) (by decide)) rfl))).trans (gTup_eq (by simp))) rfl (by rw [List.length_map]; lia)
      refine (f2_eq (x := .lst (eight.map D.int)) (y := .int (N % 6 + (if decide (N / 6 % 40 = 0) then 1 else 0) * 2)) ((fA_eq (ds := eight.map D.int) rfl).trans (if_pos (by show 8 ≤ sizeLine; lia))) ?_).trans et
      refine (f2_eq ((f2_eq rfl rfl).trans (gMod_eq (by decide))) ((f2_eq (x := .int (if decide (N / 6 % 40 = 0) then 1 else 0)) (y := .int 2) ((fA_eq (ds := [.bl (decide (N / 6 % 40 = 0))]) (aCons_eq ((f2_eq (dm_eq rfl rfl (by decide) (by decide)) rfl).trans ?_) rfl)).trans rfl) rfl).trans (gMul_r (by decide)))).trans rfl
      rfl
    obtain ⟨ws, y2, y3, hw, hw2, q2, q3, e4⟩ := loop_W (ns := ns) js (us ++ [(aS t, N / 240 % 9)]) (some (.val (.int (j : Int)))) (some (.val (.int N))) (by rw [List.length_append, List.length_singleton]; lia) (fun u h => by
      rcases List.mem_append.mp h with h | h
      · exact hu u h
      · rw [List.mem_singleton.mp h]; exact ⟨t, ht, rfl⟩) (fun o z => by cases z) (fun o z => by cases z)
    refine ⟨ws, y2, y3, by rw [hw, List.length_append, List.length_singleton, List.length_cons]; lia, hw2, q2, q3, ?_⟩
    show ((bW (RW ns us (some (.val (.int (j : Int)))) x3)).bind fun o => match o with
      | .nx ρ2 => loopD (tName 2) bW (js.map fun (j : Nat) => D.int (j : Int)) ρ2
      | .rt d => some (.rt d)) = _
    rw [show bW (RW ns us (some (.val (.int (j : Int)))) x3) = _ from (gSeq_nx e1).trans e2]
    exact e4
end CR
set_option maxHeartbeats 1000000
namespace CR
open PySem PySem.Spec L2 DL
variable {C CB : Addr}
noncomputable def BP (p : Pr) : Prop := (-1000 ≤ p.1.1 ∧ p.1.1 ≤ 1000) ∧ (-1000 ≤ p.1.2 ∧ p.1.2 ≤ 1000)
noncomputable def mx (n : Nat) : Int := if (n : Int) > 1 then (n : Int) else 1
theorem mx_in {n : Nat} (h : n ≤ 100) : 0 < mx n ∧ mx n ≤ 100 := by unfold mx; split <;> lia
noncomputable abbrev RP (ns : List Int) (ws : List Wd) (us : List Pr) (x2 x3 x5 x6 : Option Sl) : Rho := [some (.val (.scr ns)), some (.own (ws.map encW)), x2, x3, some (.own (us.map encPr)), x5, x6, none, none, none, none, none, none, none]
theorem lenO {ns : List Int} {ws : List Wd} {us : List Pr} {x2 x3 x5 x6 : Option Sl} : fLenOwn 1 (RP ns ws us x2 x3 x5 x6) = some (.int (ws.length : Int)) := by
  show some (D.int ((ws.map encW).length : Int)) = _
  rw [List.length_map]
theorem maxO {ns : List Int} {ws : List Wd} {us : List Pr} {x2 x3 x5 x6 : Option Sl} : fA gMax (aCons (fC (.int 1)) (aCons (fLenOwn 1) aNil)) (RP ns ws us x2 x3 x5 x6) = some (.int (mx ws.length)) :=
  (fA_eq (ds := [.int 1, .int (ws.length : Int)]) (aCons_eq rfl (aCons_eq lenO rfl))).trans rfl
theorem loop_P {ns : List Int} {ws : List Wd} (hw : ws.length ≤ 100) : ∀ (js : List Nat) (us : List Pr) (x2 x3 x5 x6 : Option Sl), us.length + js.length ≤ 100 → (∀ u ∈ us, BP u) → (∀ o, x2 ≠ some (.ow o)) → (∀ o, x3 ≠ some (.ow o)) → (∀ o, x5 ≠ some (.ow o)) → (∀ o, x6 ≠ some (.ow o)) →
    ∃ (ps : List Pr) (y2 y3 y5 y6 : Option Sl), ps.length = us.length + js.length ∧ (∀ u ∈ ps, BP u) ∧ (∀ o, y2 ≠ some (.ow o)) ∧ (∀ o, y3 ≠ some (.ow o)) ∧ (∀ o, y5 ≠ some (.ow o)) ∧ (∀ o, y6 ≠ some (.ow o)) ∧ loopD (tName 2) bP (js.map fun (j : Nat) => D.int (j : Int)) (RP ns ws us x2 x3 x5 x6) = some (.nx (RP ns ws ps y2 y3 y5 y6))
  | [], us, x2, x3, x5, x6, _, hu, h2, h3, h5, h6 => ⟨us, x2, x3, x5, x6, by simp, hu, h2, h3, h5, h6, rfl⟩
  | j :: js, us, x2, x3, x5, x6, hl, hu, h2, h3, h5, h6 => by
    have sl' := sl1
    have hl' : us.length + (js.length + 1) ≤ 100 := hl
    obtain ⟨mx0, mx1⟩ := mx_in hw
    obtain ⟨N, hN⟩ : ∃ N, N = mixN ns (34 + (j : Int)) := ⟨_, rfl⟩
    have e0 : pS0 (RP ns ws us (some (.val (.int (j : Int)))) x3 x5 x6) = some (.nx (RP ns ws us (some (.val (.int (j : Int)))) (some (.val (.int N))) x5 x6)) := by
      rw [hN]
      exact gSet_eq (mixE rfl rfl)
    have e1 : pS1 (RP ns ws us (some (.val (.int (j : Int)))) (some (.val (.int N))) x5 x6) = some (.nx (RP ns ws us (some (.val (.int (j : Int)))) (some (.val (.int N))) (some (.val (.int (N % mx ws.length)))) x6)) :=
      gSet_eq ((f2_eq rfl maxO).trans (gMod_eq mx0))
    have e2 : pS2 (RP ns ws us (some (.val (.int (j : Int)))) (some (.val (.int N))) (some (.val (.int (N % mx ws.length)))) x6) = some (.nx (RP ns ws us (some (.val (.int (j : Int)))) (some (.val (.int N))) (some (.val (.int (N % mx ws.length)))) (some (.val (.int (N / 31 % mx ws.length)))))) :=
      gSet_eq (dm_eq rfl maxO (by decide) mx0)
    have ma := mod_in (a := N) mx0
    have mb := mod_in (a := N / 31) mx0
    obtain ⟨a, ha, e3⟩ : ∃ a : Int, (-1000 ≤ a ∧ a ≤ 1000) ∧ pS3 (RP ns ws us (some (.val (.int (j : Int)))) (some (.val (.int N))) (some (.val (.int (N % mx ws.length)))) (some (.val (.int (N / 31 % mx ws.length))))) = some (.nx (RP ns ws us (some (.val (.int (j : Int)))) (some (.val (.int N))) (some (.val (.int a))) (some (.val (.int (N / 31 % mx ws.length)))))) := by
      have et : bTest (f2 gEqS (f2 gMod (f2 gFdiv (fVar 3) (fC (.int 961))) (fC (.int 12))) (fC (.int 0))) (RP ns ws us (some (.val (.int (j : Int)))) (some (.val (.int N))) (some (.val (.int (N % mx ws.length)))) (some (.val (.int (N / 31 % mx ws.length))))) = some (decide (N / 961 % 12 = 0)) :=
        bTest_eq ((f2_eq (dm_eq rfl rfl (by decide) (by decide)) rfl).trans rfl)
      cases hd : decide (N / 961 % 12 = 0) with
      | false =>
        rw [hd] at et
        exact ⟨N % mx ws.length, by lia, (gIf_f et).trans rfl⟩
      | true =>
        rw [hd] at et
        obtain ⟨a, ha, ea⟩ := atI_in (xs := [-1, (ws.length : Int), 700]) D.int (i := N / 11532 % 3) (mod_in (by decide)).1 (mod_in (by decide)).2
        refine ⟨a, ?_, (gIf_t et).trans (gSet_eq ((f2_eq (x := .lst ([-1, (ws.length : Int), 700].map D.int)) (y := .int (N / 11532 % 3)) ((fA_eq (aCons_eq rfl (aCons_eq lenO rfl))).trans (if_pos (by show 3 ≤ sizeLine; lia))) (dm_eq rfl rfl (by decide) (by decide))).trans ea))⟩
        simp only [List.mem_cons, List.not_mem_nil, or_false] at ha
        rcases ha with rfl | rfl | rfl
        · decide
        · lia
        · decide
    have e4 : pS4 (RP ns ws us (some (.val (.int (j : Int)))) (some (.val (.int N))) (some (.val (.int a))) (some (.val (.int (N / 31 % mx ws.length))))) = some (.nx (RP ns ws (us ++ [((a, N / 31 % mx ws.length), N / 1000 % 3)]) (some (.val (.int (j : Int)))) (some (.val (.int N))) (some (.val (.int a))) (some (.val (.int (N / 31 % mx ws.length)))))) := by
      show _ = some (Out.nx [some (.val (.scr ns)), some (.own (ws.map encW)), _, _, some (.own ((us ++ [((a, N / 31 % mx ws.length), N / 1000 % 3)]).map encPr)), _, _, none, none, none, none, none, none, none])
      rw [List.map_append]
      exact gApp_eq (d := encPr ((a, N / 31 % mx ws.length), N / 1000 % 3)) (ds := us.map encPr) ((fA_eq (aCons_eq rfl (aCons_eq rfl (aCons_eq (dm_eq rfl rfl (by decide) (by decide)) rfl)))).trans (gTup_eq (by simp))) rfl (by rw [List.length_map]; lia)
    obtain ⟨ps, y2, y3, y5, y6, hq, hq2, q2, q3, q5, q6, e5⟩ := loop_P (ns := ns) hw js (us ++ [((a, N / 31 % mx ws.length), N / 1000 % 3)]) (some (.val (.int (j : Int)))) (some (.val (.int N))) (some (.val (.int a))) (some (.val (.int (N / 31 % mx ws.length)))) (by rw [List.length_append, List.length_singleton]; lia) (fun u h => by
      rcases List.mem_append.mp h with h | h
      · exact hu u h
      · rw [List.mem_singleton.mp h]; exact ⟨ha, by show -1000 ≤ N / 31 % mx ws.length ∧ N / 31 % mx ws.length ≤ 1000; lia⟩) (fun o z => by cases z) (fun o z => by cases z) (fun o z => by cases z) (fun o z => by cases z)
    refine ⟨ps, y2, y3, y5, y6, by rw [hq, List.length_append, List.length_singleton, List.length_cons]; lia, hq2, q2, q3, q5, q6, ?_⟩
    show ((bP (RP ns ws us (some (.val (.int (j : Int)))) x3 x5 x6)).bind fun o => match o with
      | .nx ρ2 => loopD (tName 2) bP (js.map fun (j : Nat) => D.int (j : Int)) ρ2
      | .rt d => some (.rt d)) = _
    rw [show bP (RP ns ws us (some (.val (.int (j : Int)))) x3 x5 x6) = _ from (gSeq_nx e0).trans ((gSeq_nx e1).trans ((gSeq_nx e2).trans ((gSeq_nx e3).trans e4)))]
    exact e5
end CR
set_option maxHeartbeats 1000000
namespace CR
open PySem PySem.Spec L2 DL SQ
variable {C CB : Addr}
theorem mapM_bl : ∀ bs : List Bool, (bs.map D.bl).mapM asB = some bs
  | [] => rfl
  | b :: bs => by
    rw [List.map_cons, List.mapM_cons, mapM_bl bs]
    rfl
theorem gAll_bl (bs : List Bool) : gAll [.lst (bs.map D.bl)] = some (.bl (bs.all id)) := by
  show ((bs.map D.bl).mapM asB).map _ = _
  rw [mapM_bl]
  rfl
theorem fAnd_bl {f h : Fe} {ρ : Rho} {a b : Bool} (e1 : f ρ = some (.bl a)) (e2 : h ρ = some (.bl b)) : fAnd f h ρ = some (.bl (a && b)) := by
  unfold fAnd
  rw [e1]
  cases a
  · rfl
  · exact e2
theorem f3c_le {f h l : Fe} {ρ : Rho} {a b c : Int} (e1 : f ρ = some (.int a)) (e2 : h ρ = some (.int b)) (e3 : l ρ = some (.int c)) : f3c gLe gLe f h l ρ = some (.bl (decide (a ≤ b) && decide (b ≤ c))) := by
  unfold f3c
  rw [e1, e2, e3]
  show (match some (D.bl (decide (a ≤ b))) with
    | some (.bl true) => some (D.bl (decide (b ≤ c)))
    | some (.bl false) => some (.bl false)
    | _ => none) = _
  cases decide (a ≤ b) <;> rfl
noncomputable def okW (u : Wd) : Bool := decide ((1 : Int) ≤ (u.1.length : Int)) && decide ((u.1.length : Int) ≤ 12)
noncomputable def goodW (ws : List Wd) : Bool := decide ((ws.length : Int) ≤ 30) && (ws.map okW).all id
noncomputable def kp (p : Pr) : List Key := [.inl p.1.1, .inl p.1.2]
noncomputable def encN (p : Pr) : D := .tup [.int p.1.1, .int p.1.2]
noncomputable def nD (ps : List Pr) : Nat := (firstK (fun i => (ps.map kp).getD i []) ps.length).length
noncomputable def goodN (ps : List Pr) : Bool := decide ((nD ps : Int) = (ps.length : Int))
noncomputable def okP (n : Nat) (p : Pr) : Bool := decide ((0 : Int) ≤ (if p.1.2 < p.1.1 then p.1.2 else p.1.1)) && decide ((if p.1.2 > p.1.1 then p.1.2 else p.1.1) < (n : Int))
noncomputable def goodP (n : Nat) (ps : List Pr) : Bool := (ps.map (okP n)).all id
theorem aS_len : ∀ n ∈ eight, (aS n).length ≤ 1000 := by decide +kernel
theorem keys_N : ∀ ps : List Pr, (ps.map encN).mapM asKeys = some (ps.map kp)
  | [] => rfl
  | p :: ps => by
    rw [List.map_cons, List.mapM_cons, keys_N ps]
    rfl
noncomputable abbrev RG (ns : List Int) (ws : List Wd) (x4 : Option Sl) (x2 x3 x5 x6 x7 x8 : Option Sl) : Rho := [some (.val (.scr ns)), some (.val (.lst (ws.map encW))), x2, x3, x4, x5, x6, x7, x8, none, none, none, none, none]
section
variable {ns : List Int} {ws : List Wd} {ps : List Pr} {x2 x3 x4 x5 x6 x7 x8 : Option Sl}
theorem ev_G1 (hw : ws.length ≤ 100) (he : ∀ u ∈ ws, ∃ n ∈ eight, u.1 = aS n) : gG1 (RG ns ws x4 x2 x3 x5 x6 x7 x8) = some (.nx (RG ns ws x4 x2 x3 x5 x6 (some (.val (.bl (goodW ws)))) x8)) := by
  have sl' := sl1
  refine gSet_eq (fAnd_bl ((f2_eq (x := .int (ws.length : Int)) (y := .int 30) ?_ rfl).trans rfl) ((fA_eq (ds := [.lst ((ws.map okW).map D.bl)]) (aCons_eq ?_ rfl)).trans (gAll_bl _)))
  · show some (D.int ((ws.map encW).length : Int)) = _
    rw [List.length_map]
  · refine fComp_eq (iLst_eq rfl) (by rw [List.length_map]; lia) (compD_typed (n := 1) (ft := tName 0) (f := f3c gLe gLe (fC (.int 1)) (fA gLenS (aCons (f2 gIx (fVar 0) (fC (.int 0))) aNil)) (fC (.int 12))) (ρ := [none]) encW D.bl okW (fun u => [some (.val (encW u))]) ws fun u hu => ⟨rfl, f3c_le rfl ?_ rfl, rfl⟩)
    obtain ⟨n, hn, e⟩ := he u hu
    have := aS_len n hn
    rw [← e] at this
    exact (fA_eq (ds := [.str u.1]) (aCons_eq rfl rfl)).trans (if_pos (by lia))
theorem ev_Nm (hp : ps.length ≤ 100) : gNm (RG ns ws (some (.val (.lst (ps.map encPr)))) x2 x3 x5 x6 x7 x8) = some (.nx (RG ns ws (some (.val (.lst (ps.map encPr)))) x2 x3 x5 x6 x7 (some (.val (.lst (ps.map encN)))))) := by
  have sl' := sl1
  refine gSet_eq ((fComp_eq (iLst_eq rfl) (by rw [List.length_map]; lia) (compD_typed (n := 1) (ft := tName 0) (f := fSlT (fVar 0) oNone (oSome (fC (.int 2)))) (ρ := [none]) encPr encN id (fun p => [some (.val (encPr p))]) ps fun p _ => ⟨rfl, rfl, rfl⟩)).trans ?_)
  rw [List.map_id]
theorem ev_G2 (hp : ps.length ≤ 4) {b : Bool} : gG2 (RG ns ws x4 x2 x3 x5 x6 (some (.val (.bl b))) (some (.val (.lst (ps.map encN))))) = some (.nx (RG ns ws x4 x2 x3 x5 x6 (some (.val (.bl (b && goodN ps)))) (some (.val (.lst (ps.map encN)))))) := by
  refine gSet_eq (fAnd_bl rfl ((f2_eq (x := .int (nD ps : Int)) (y := .int (ps.length : Int)) ((f1_eq (x := .lst (ps.map encN)) rfl).trans ?_) ?_).trans rfl))
  · refine (if_pos (by rw [List.length_map]; exact hp)).trans ?_
    rw [keys_N, List.length_map]
    rfl
  · show some (D.int ((ps.map encN).length : Int)) = _
    rw [List.length_map]
theorem ev_G3 (hp : ps.length ≤ 100) {b : Bool} : gG3 (RG ns ws x4 x2 x3 x5 x6 (some (.val (.bl b))) (some (.val (.lst (ps.map encN))))) = some (.nx (RG ns ws x4 x2 x3 x5 x6 (some (.val (.bl (b && goodP ws.length ps)))) (some (.val (.lst (ps.map encN)))))) := by
  have sl' := sl1
  refine gSet_eq (fAnd_bl rfl ((fA_eq (ds := [.lst ((ps.map (okP ws.length)).map D.bl)]) (aCons_eq ?_ rfl)).trans (gAll_bl _)))
  refine fComp_eq (iLst_eq rfl) (by rw [List.length_map]; lia) (compD_typed (n := 1) (ft := tName 0) (f := fAnd (f2 gLe (fC (.int 0)) (fA gMinP (aCons (fVar 0) aNil))) (f2 gLt (fA gMaxP (aCons (fVar 0) aNil)) (fA gLen (aCons (fVar 1) aNil)))) (ρ := [none, some (.val (.lst (ws.map encW)))]) encN D.bl (okP ws.length) (fun p => [some (.val (encN p)), some (.val (.lst (ws.map encW)))]) ps fun p hp => ⟨rfl, ?_, rfl⟩)
  refine fAnd_bl rfl ((f2_eq (y := .int (ws.length : Int)) rfl ?_).trans rfl)
  show some (D.int ((ws.map encW).length : Int)) = _
  rw [List.length_map]
end
end CR
set_option maxHeartbeats 1000000
namespace CR
open PySem PySem.Spec L2 DL SQ
variable {C CB : Addr}
theorem ev_front (ns : List Int) : ∃ (ws : List Wd) (ps : List Pr) (x2 x3 x5 x6 : Option Sl), ws.length ≤ 31 ∧ (∀ u ∈ ws, ∃ n ∈ eight, u.1 = aS n) ∧ ps.length ≤ 4 ∧ (∀ p ∈ ps, BP p) ∧ (∀ o, x2 ≠ some (.ow o)) ∧ (∀ o, x3 ≠ some (.ow o)) ∧ (∀ o, x5 ≠ some (.ow o)) ∧ (∀ o, x6 ≠ some (.ow o)) ∧
    g_law C CB (startR N_law [.scr ns]) = some (.nx (R8 ns (ws.map encW) (ps.map encPr) (goodW ws && goodN ps && goodP ws.length ps) x2 x3 x5 x6 (some (.val (.lst (ps.map encN)))) none none none none none)) := by
  have sl' := sl1
  have h5 := mod_in (a := mixN ns 33) (m := 5) (by decide)
  obtain ⟨c, hc, ec⟩ := atI_in (xs := [0, 1, 2, 5, 29, 30, 31]) D.int (i := mixN ns 0 % 7) (mod_in (by decide)).1 (mod_in (by decide)).2
  have cb : 0 ≤ c ∧ c ≤ 31 := (show ∀ c ∈ ([0, 1, 2, 5, 29, 30, 31] : List Int), 0 ≤ c ∧ c ≤ 31 by decide) c hc
  obtain ⟨ws, y2, y3, hw, hw2, q2, q3, e1⟩ := loop_W (ns := ns) (List.range c.toNat) [] none none (by rw [List.length_range]; show 0 + _ ≤ 100; lia) (fun u h => by cases h) (fun o z => by cases z) (fun o z => by cases z)
  rw [List.length_range] at hw
  have hw' : ws.length ≤ 31 := by rw [hw]; show 0 + _ ≤ 31; lia
  obtain ⟨ps, z2, z3, z5, z6, hp, hp2, r2, r3, r5, r6, e2⟩ := loop_P (ns := ns) (ws := ws) (by lia) (List.range (mixN ns 33 % 5).toNat) [] y2 y3 none none (by rw [List.length_range]; show 0 + _ ≤ 100; lia) (fun u h => by cases h) q2 q3 (fun o z => by cases z) (fun o z => by cases z)
  rw [List.length_range] at hp
  have hp' : ps.length ≤ 4 := by rw [hp]; show 0 + _ ≤ 4; lia
  refine ⟨ws, ps, z2, z3, z5, z6, hw', hw2, hp', hp2, r2, r3, r5, r6, ?_⟩
  show gSeq _ _ [some (.val (.scr ns)), none, none, none, none, none, none, none, none, none, none, none, none, none] = _
  refine (gSeq_nx (ρ' := RW ns [] none none) (if_pos (e := none) (show 0 ≤ sizeLine from Nat.zero_le _))).trans ?_
  have ei : iW (RW ns [] none none) = some ((List.range c.toNat).map fun (k : Nat) => D.int (k : Int)) := iRng_eq ((f2_eq (x := .lst (([0, 1, 2, 5, 29, 30, 31] : List Int).map D.int)) (y := .int (mixN ns 0 % 7)) ((fA_eq (ds := ([0, 1, 2, 5, 29, 30, 31] : List Int).map D.int) rfl).trans (if_pos (by show 7 ≤ sizeLine; lia))) (mixM rfl rfl (by decide))).trans ec) (by lia) (by lia)
  refine (gSeq_nx ((gFor_eq ei).trans e1)).trans ?_
  refine (gSeq_nx (ρ' := RP ns ws [] y2 y3 none none) (if_pos (e := none) (show 0 ≤ sizeLine from Nat.zero_le _))).trans ?_
  refine (gSeq_nx ((gFor_eq (iRng_eq (mixM rfl rfl (by decide)) (by lia) (by lia))).trans e2)).trans ?_
  show gSeq gG1 _ (RG ns ws (some (.own (ps.map encPr))) z2 z3 z5 z6 none none) = _
  refine (gSeq_nx (ev_G1 (by lia) hw2)).trans ?_
  show gSeq gNm _ (RG ns ws (some (.val (.lst (ps.map encPr)))) z2 z3 z5 z6 (some (.val (.bl (goodW ws)))) none) = _
  refine (gSeq_nx (ev_Nm (by lia))).trans ?_
  refine (gSeq_nx (ev_G2 hp')).trans ?_
  exact ev_G3 (by lia)
theorem jRepr_eq {fj : Fj} {f : Fe} {ρ : Rho} {x : Str} {n : Nat} (e1 : f ρ = some (.str x)) (e : fj ρ = some n) : jRepr f fj ρ = some ((reprText x).length + n) := by
  unfold jRepr
  rw [e1, e]
  rfl
theorem aS_repr : ∀ n ∈ eight, (reprText (aS n)).length ≤ 1000 := by decide +kernel
noncomputable abbrev xW : Fx := xSeq (xIf (bOr (bTest (f2 gLt (fA gLenS (aCons (fVar 1) aNil)) (fC (.int 1)))) (bTest (f2 gGt (fA gLenS (aCons (fVar 1) aNil)) (fC (.int 12))))) (xRaise CB (jLit (Str.ofString "a word has 1 to ").length (jInt (fC (.int 12)) (jLit (Str.ofString " signs, not as ").length (jRepr (fVar 1) jNil))))) (xOk gNext)) (xIf (bTest (f2 gIs (fVar 2) (fC .non))) (xRaise CB (jLit (Str.ofString "the word ").length (jRepr (fVar 1) (jLit (Str.ofString " has no cost").length jNil)))) (xOk gNext))
theorem len_ofS : (Str.ofString "a word has 1 to ").length = 16 ∧ (Str.ofString " signs, not as ").length = 15 := by decide +kernel
theorem len_ofT : (Str.ofString "there are more than ").length = 20 ∧ (Str.ofString " words").length = 6 := by decide +kernel
theorem loop_CW (d0 : D) : ∀ (us : List Wd) (x1 x2 : Option Sl), (∀ u ∈ us, ∃ n ∈ eight, u.1 = aS n) →
    ∃ y1 y2, loopX (tTwo 1 2) (xW (CB := CB)) (us.map encW) [some (.val d0), x1, x2] = if (us.map okW).all id then some (.ok (.nx [some (.val d0), y1, y2])) else some (.xr CB)
  | [], x1, x2, _ => ⟨x1, x2, rfl⟩
  | u :: us, x1, x2, h => by
    have sl' := sl1
    obtain ⟨n, hn, e⟩ := h u List.mem_cons_self
    have hl := aS_len n hn
    have hr := aS_repr n hn
    rw [← e] at hl hr
    obtain ⟨y1, y2, ih⟩ := loop_CW d0 us (some (.val (.str u.1))) (some (.val (.int u.2))) fun v hv => h v (List.mem_cons_of_mem _ hv)
    have el : fA gLenS (aCons (fVar 1) aNil) [some (.val d0), some (.val (.str u.1)), some (.val (.int u.2))] = some (.int (u.1.length : Int)) := (fA_eq (ds := [.str u.1]) rfl).trans (if_pos (by lia))
    have et : bOr (bTest (f2 gLt (fA gLenS (aCons (fVar 1) aNil)) (fC (.int 1)))) (bTest (f2 gGt (fA gLenS (aCons (fVar 1) aNil)) (fC (.int 12)))) [some (.val d0), some (.val (.str u.1)), some (.val (.int u.2))] = some (!okW u) := by
      have e1 : bTest (f2 gLt (fA gLenS (aCons (fVar 1) aNil)) (fC (.int 1))) [some (.val d0), some (.val (.str u.1)), some (.val (.int u.2))] = some (decide ((u.1.length : Int) < 1)) := bTest_eq ((f2_eq el rfl).trans rfl)
      have e2 : bTest (f2 gGt (fA gLenS (aCons (fVar 1) aNil)) (fC (.int 12))) [some (.val d0), some (.val (.str u.1)), some (.val (.int u.2))] = some (decide ((u.1.length : Int) > 12)) := bTest_eq ((f2_eq el rfl).trans rfl)
      unfold okW
      by_cases c1 : (u.1.length : Int) < 1
      · rw [decide_eq_true c1] at e1
        rw [decide_eq_false (show ¬ (1 : Int) ≤ (u.1.length : Int) by lia)]
        exact bOr_t e1
      · rw [decide_eq_false c1] at e1
        rw [decide_eq_true (show (1 : Int) ≤ (u.1.length : Int) by lia)]
        refine (bOr_f e1 e2).trans ?_
        by_cases c2 : (u.1.length : Int) > 12
        · rw [decide_eq_true c2, decide_eq_false (show ¬ (u.1.length : Int) ≤ 12 by lia)]; rfl
        · rw [decide_eq_false c2, decide_eq_true (show (u.1.length : Int) ≤ 12 by lia)]; rfl
    have step : loopX (tTwo 1 2) (xW (CB := CB)) ((u :: us).map encW) [some (.val d0), x1, x2] = (xW (CB := CB) [some (.val d0), some (.val (.str u.1)), some (.val (.int u.2))]).bind fun o => match o with
      | .ok (.nx ρ2) => loopX (tTwo 1 2) (xW (CB := CB)) (us.map encW) ρ2
      | .ok (.rt d) => some (.ok (.rt d))
      | .xr C => some (.xr C) := rfl
    refine ⟨y1, y2, ?_⟩
    rw [step]
    cases ho : okW u with
    | false =>
      rw [ho] at et
      have ex : xW (CB := CB) [some (.val d0), some (.val (.str u.1)), some (.val (.int u.2))] = some (.xr CB) := by
        refine xSeq_xr ((xIf_t et).trans (xRaise_eq (n := 16 + (70 + (15 + ((reprText u.1).length + 0)))) ?_ (by lia)))
        rw [len_ofS.1, len_ofS.2]
        exact jLit_eq (jInt_eq rfl (by decide) (by decide) (jLit_eq (jRepr_eq rfl rfl)))
      rw [ex, List.map_cons, List.all_cons, ho]
      rfl
    | true =>
      rw [ho] at et
      have ex : xW (CB := CB) [some (.val d0), some (.val (.str u.1)), some (.val (.int u.2))] = some (.ok (.nx [some (.val d0), some (.val (.str u.1)), some (.val (.int u.2))])) :=
        (xSeq_nx ((xIf_f et).trans rfl)).trans ((xIf_f (bTest_eq (b := false) rfl)).trans rfl)
      rw [ex, List.map_cons, List.all_cons, ho]
      exact ih
theorem ev_check_words {ws : List Wd} (hw : ws.length ≤ 100) (h : ∀ u ∈ ws, ∃ n ∈ eight, u.1 = aS n) : FX_check_words C CB [.lst (ws.map encW)] = if goodW ws then some (.val .non) else some (.xr CB) := by
  have sl' := sl1
  refine (runAX_eq).trans ?_
  show runX (x_check_words C CB) [some (.val (.lst (ws.map encW))), none, none] = _
  have el : fA gLen (aCons (fVar 0) aNil) [some (.val (.lst (ws.map encW))), none, none] = some (.int (ws.length : Int)) := by
    show some (D.int ((ws.map encW).length : Int)) = _
    rw [List.length_map]
  have et : bTest (f2 gGt (fA gLen (aCons (fVar 0) aNil)) (fC (.int 30))) [some (.val (.lst (ws.map encW))), none, none] = some (decide ((ws.length : Int) > 30)) := bTest_eq ((f2_eq el rfl).trans rfl)
  unfold goodW
  by_cases c : (ws.length : Int) > 30
  · rw [decide_eq_true c] at et
    rw [decide_eq_false (show ¬ (ws.length : Int) ≤ 30 by lia)]
    refine runX_xr (xSeq_xr ((xIf_t et).trans (xRaise_eq (n := 20 + (70 + (6 + 0))) ?_ (by decide))))
    rw [len_ofT.1, len_ofT.2]
    exact jLit_eq (jInt_eq rfl (by decide) (by decide) (jLit_eq rfl))
  · rw [decide_eq_false c] at et
    rw [decide_eq_true (show (ws.length : Int) ≤ 30 by lia)]
    obtain ⟨y1, y2, e⟩ := loop_CW (CB := CB) (.lst (ws.map encW)) ws none none h
    have ex : x_check_words C CB [some (.val (.lst (ws.map encW))), none, none] = if (ws.map okW).all id then some (.ok (.nx [some (.val (.lst (ws.map encW))), y1, y2])) else some (.xr CB) :=
      (xSeq_nx ((xIf_f et).trans rfl)).trans ((xFor_eq (iLst_eq rfl)).trans e)
    cases hg : (ws.map okW).all id with
    | true => rw [hg] at ex; exact runX_nx ex
    | false => rw [hg] at ex; exact runX_xr ex
end CR
set_option maxHeartbeats 1000000
namespace CR
open PySem PySem.Spec L2 DL SQ
variable {C CB : Addr}
noncomputable abbrev xP (CB : Addr) : Fx := (xSeq (xIf (bNot (bAnd (bTest (f3c gLe gLt (fC (.int 0)) (fVar 3) (fVar 1))) (bTest (f3c gLe gLt (fC (.int 0)) (fVar 4) (fVar 1))))) (xRaise CB (jLit (Str.ofString "one of the words ").length (jInt (fVar 3) (jLit (Str.ofString " and ").length (jInt (fVar 4) (jLit (Str.ofString " is not there").length jNil)))))) (xOk gNext)) (xSeq (xIf (bTest (f2 gIs (fVar 5) (fC .non))) (xRaise CB (jLit (Str.ofString "the words ").length (jInt (fVar 3) (jLit (Str.ofString " and ").length (jInt (fVar 4) (jLit (Str.ofString " have no cost").length jNil)))))) (xOk gNext)) (xSeq (xIf (bTest (fDInOwn 2 (fA gTup (aCons (fVar 3) (aCons (fVar 4) aNil))))) (xRaise CB (jLit (Str.ofString "the words ").length (jInt (fVar 3) (jLit (Str.ofString " and ").length (jInt (fVar 4) (jLit (Str.ofString " stand twice").length jNil)))))) (xOk gNext)) (xOk (gPut 2 (fA gTup (aCons (fVar 3) (aCons (fVar 4) aNil))) (fC (.bl true)))))))
noncomputable abbrev tP1 : Rho → Option Bool := (bNot (bAnd (bTest (f3c gLe gLt (fC (.int 0)) (fVar 3) (fVar 1))) (bTest (f3c gLe gLt (fC (.int 0)) (fVar 4) (fVar 1)))))
noncomputable abbrev tP3 : Rho → Option Bool := (bTest (fDInOwn 2 (fA gTup (aCons (fVar 3) (aCons (fVar 4) aNil)))))
noncomputable abbrev gP4 : Fs := (gPut 2 (fA gTup (aCons (fVar 3) (aCons (fVar 4) aNil))) (fC (.bl true)))
theorem f3c_lt {f h l : Fe} {ρ : Rho} {a b c : Int} (e1 : f ρ = some (.int a)) (e2 : h ρ = some (.int b)) (e3 : l ρ = some (.int c)) : f3c gLe gLt f h l ρ = some (.bl (decide (a ≤ b) && decide (b < c))) := by
  unfold f3c
  rw [e1, e2, e3]
  show (match some (D.bl (decide (a ≤ b))) with
    | some (.bl true) => some (D.bl (decide (b < c)))
    | some (.bl false) => some (.bl false)
    | _ => none) = _
  cases decide (a ≤ b) <;> rfl
theorem bAnd_bl {t u : Rho → Option Bool} {ρ : Rho} {a b : Bool} (e1 : t ρ = some a) (e2 : u ρ = some b) : bAnd t u ρ = some (a && b) := by
  cases a with
  | false => exact bAnd_f e1
  | true => exact bAnd_t e1 e2
noncomputable def inL {κ : Type} [DecidableEq κ] (x : κ) (l : List κ) : Bool := decide (x ∈ l)
theorem inL_f {κ : Type} [DecidableEq κ] {x : κ} {l : List κ} (h : inL x l = false) : x ∉ l := of_decide_eq_false h
theorem look_is {κ : Type} [DecidableEq κ] : ∀ {ks : List κ} {ds : List D} {x : κ}, ks.length = ds.length → (lookK ks ds x).isSome = inL x ks
  | [], _, _, _ => by unfold lookK inL; simp
  | _ :: _, [], _, h => by cases h
  | k :: ks, d :: ds, x, h => by
    show (if k = x then some d else lookK ks ds x).isSome = _
    by_cases z : k = x
    · rw [if_pos z, z]; unfold inL; simp
    · rw [if_neg z, look_is (by simpa using h)]
      unfold inL
      simp [Ne.symm z]
theorem put_new {κ : Type} [DecidableEq κ] : ∀ {ks : List κ} {ds : List D} {x : κ} {d : D}, ks.length = ds.length → x ∉ ks → putKs ks x = ks ++ [x] ∧ putDs ks ds x d = ds ++ [d]
  | [], [], x, d, _, _ => ⟨rfl, rfl⟩
  | [], _ :: _, _, _, h, _ => by cases h
  | _ :: _, [], _, _, h, _ => by cases h
  | k :: ks, e :: ds, x, d, h, n => by
    have n1 : k ≠ x := fun z => n (by rw [z]; exact List.mem_cons_self)
    have n2 : x ∉ ks := fun z => n (List.mem_cons_of_mem _ z)
    refine ⟨if_neg n, ?_⟩
    show (if k = x then d :: ds else e :: putDs ks ds x d) = _
    rw [if_neg n1, (put_new (by simpa using h) n2).2]
    rfl
noncomputable def inr (n : Nat) (p : Pr) : Bool := (decide ((0 : Int) ≤ p.1.1) && decide (p.1.1 < (n : Int))) && (decide ((0 : Int) ≤ p.1.2) && decide (p.1.2 < (n : Int)))
noncomputable def chk (n : Nat) : List (List Key) → List Pr → Bool
  | _, [] => true
  | ks, p :: ps => inr n p && (!inL (kp p) ks && chk n (ks ++ [kp p]) ps)
noncomputable abbrev RC (g0 : D) (n : Nat) (ks : List (List Key)) (x3 x4 x5 : Option Sl) : Rho := [some (.val g0), some (.val (.int (n : Int))), some (.ow (.dT ks (ks.map fun _ => D.bl true))), x3, x4, x5]
theorem loop_CP {n : Nat} (g0 : D) : ∀ (qs : List Pr) (ks : List (List Key)) (x3 x4 x5 : Option Sl), ks.Nodup → ks.length + qs.length ≤ 100 → (∀ p ∈ qs, BP p) →
    ∃ ks' y3 y4 y5, loopX (tMany [3, 4, 5]) (xP CB) (qs.map encPr) (RC g0 n ks x3 x4 x5) = if chk n ks qs then some (.ok (.nx (RC g0 n ks' y3 y4 y5))) else some (.xr CB)
  | [], ks, x3, x4, x5, _, _, _ => ⟨ks, x3, x4, x5, rfl⟩
  | p :: qs, ks, x3, x4, x5, nd, hl, hb => by
    have sl' := sl1
    have hl' : ks.length + (qs.length + 1) ≤ 100 := hl
    obtain ⟨⟨a1, a2⟩, b1, b2⟩ := hb p List.mem_cons_self
    have step : loopX (tMany [3, 4, 5]) (xP CB) ((p :: qs).map encPr) (RC g0 n ks x3 x4 x5) = (xP CB (RC g0 n ks (some (.val (.int p.1.1))) (some (.val (.int p.1.2))) (some (.val (.int p.2))))).bind fun o => match o with
      | .ok (.nx ρ2) => loopX (tMany [3, 4, 5]) (xP CB) (qs.map encPr) ρ2
      | .ok (.rt d) => some (.ok (.rt d))
      | .xr C => some (.xr C) := rfl
    have et1 : tP1 (RC g0 n ks (some (.val (.int p.1.1))) (some (.val (.int p.1.2))) (some (.val (.int p.2)))) = some (!inr n p) :=
      bNot_eq (bAnd_bl (bTest_eq (f3c_lt (a := 0) (b := p.1.1) (c := (n : Int)) rfl rfl rfl)) (bTest_eq (f3c_lt (a := 0) (b := p.1.2) (c := (n : Int)) rfl rfl rfl)))
    have etup : fA gTup (aCons (fVar 3) (aCons (fVar 4) aNil)) (RC g0 n ks (some (.val (.int p.1.1))) (some (.val (.int p.1.2))) (some (.val (.int p.2)))) = some (.tup [.int p.1.1, .int p.1.2]) := (fA_eq rfl).trans (gTup_eq (by simp))
    have et3 : tP3 (RC g0 n ks (some (.val (.int p.1.1))) (some (.val (.int p.1.2))) (some (.val (.int p.2)))) = some (inL (kp p) ks) := by
      refine bTest_eq ?_
      show ((fA gTup (aCons (fVar 3) (aCons (fVar 4) aNil)) (RC g0 n ks (some (.val (.int p.1.1))) (some (.val (.int p.1.2))) (some (.val (.int p.2))))).bind fun k => gDIn k (.dT ks (ks.map fun _ => D.bl true))) = _
      rw [etup]
      show some (D.bl (lookK ks (ks.map fun _ => D.bl true) (kp p)).isSome) = _
      rw [look_is (by simp)]
    rw [step]
    cases h1 : inr n p with
    | false =>
      rw [h1] at et1
      have ex : xP CB (RC g0 n ks (some (.val (.int p.1.1))) (some (.val (.int p.1.2))) (some (.val (.int p.2)))) = some (.xr CB) :=
        xSeq_xr ((xIf_t et1).trans (xRaise_eq (jLit_eq (jInt_eq rfl (by lia) (by lia) (jLit_eq (jInt_eq rfl (by lia) (by lia) (jLit_eq rfl))))) (by decide +kernel)))
      refine ⟨ks, none, none, none, ?_⟩
      rw [ex]
      show _ = if (inr n p && _) then _ else _
      rw [h1]
      rfl
    | true =>
      rw [h1] at et1
      cases h2 : inL (kp p) ks with
      | true =>
        rw [h2] at et3
        have ex : xP CB (RC g0 n ks (some (.val (.int p.1.1))) (some (.val (.int p.1.2))) (some (.val (.int p.2)))) = some (.xr CB) :=
          (xSeq_nx ((xIf_f et1).trans rfl)).trans ((xSeq_nx ((xIf_f (bTest_eq (b := false) rfl)).trans rfl)).trans (xSeq_xr ((xIf_t et3).trans (xRaise_eq (jLit_eq (jInt_eq rfl (by lia) (by lia) (jLit_eq (jInt_eq rfl (by lia) (by lia) (jLit_eq rfl))))) (by decide +kernel)))))
        refine ⟨ks, none, none, none, ?_⟩
        rw [ex]
        show _ = if (inr n p && (!inL (kp p) ks && _)) then _ else _
        rw [h1, h2]
        rfl
      | false =>
        rw [h2] at et3
        have hnot : kp p ∉ ks := inL_f h2
        obtain ⟨k1, k2⟩ := put_new (ks := ks) (ds := ks.map fun _ => D.bl true) (x := kp p) (d := .bl true) (by simp) hnot
        have ep : gP4 (RC g0 n ks (some (.val (.int p.1.1))) (some (.val (.int p.1.2))) (some (.val (.int p.2)))) = some (.nx (RC g0 n (ks ++ [kp p]) (some (.val (.int p.1.1))) (some (.val (.int p.1.2))) (some (.val (.int p.2))))) := by
          unfold gP4 gPut
          rw [etup]
          show ((if ks.Nodup ∧ ks.length < sizeLine then some (Ow.dT (putKs ks (kp p)) (putDs ks (ks.map fun _ => D.bl true) (kp p) (.bl true))) else none).bind fun o' => some (Out.nx [some (.val g0), some (.val (.int (n : Int))), some (.ow o'), some (.val (.int p.1.1)), some (.val (.int p.1.2)), some (.val (.int p.2))])) = _
          rw [if_pos ⟨nd, by lia⟩, k1, k2]
          simp
        have ex : xP CB (RC g0 n ks (some (.val (.int p.1.1))) (some (.val (.int p.1.2))) (some (.val (.int p.2)))) = some (.ok (.nx (RC g0 n (ks ++ [kp p]) (some (.val (.int p.1.1))) (some (.val (.int p.1.2))) (some (.val (.int p.2)))))) :=
          (xSeq_nx ((xIf_f et1).trans rfl)).trans ((xSeq_nx ((xIf_f (bTest_eq (b := false) rfl)).trans rfl)).trans ((xSeq_nx ((xIf_f et3).trans rfl)).trans (xOk_eq ep)))
        have nd2 : (ks ++ [kp p]).Nodup := List.nodup_append.mpr ⟨nd, List.nodup_cons.mpr ⟨List.not_mem_nil, List.nodup_nil⟩, fun a ha c hc z => by
          rw [List.mem_singleton.mp hc] at z
          rw [z] at ha
          exact hnot ha⟩
        obtain ⟨ks', y3, y4, y5, ih⟩ := loop_CP g0 qs (ks ++ [kp p]) (some (.val (.int p.1.1))) (some (.val (.int p.1.2))) (some (.val (.int p.2))) nd2 (by rw [List.length_append, List.length_singleton]; lia) fun q hq => hb q (List.mem_cons_of_mem _ hq)
        refine ⟨ks', y3, y4, y5, ?_⟩
        rw [ex]
        show loopX (tMany [3, 4, 5]) (xP CB) (qs.map encPr) _ = if (inr n p && (!inL (kp p) ks && chk n (ks ++ [kp p]) qs)) then _ else _
        rw [h1, h2]
        exact ih
theorem ev_check_pairs {n : Nat} {ps : List Pr} (hl : ps.length ≤ 100) (hb : ∀ p ∈ ps, BP p) : FX_check_pairs C CB [.lst (ps.map encPr), .int (n : Int)] = if chk n [] ps then some (.val .non) else some (.xr CB) := by
  refine (runAX_eq).trans ?_
  show runX (x_check_pairs C CB) [some (.val (.lst (ps.map encPr))), some (.val (.int (n : Int))), none, none, none, none] = _
  obtain ⟨ks', y3, y4, y5, e⟩ := loop_CP (CB := CB) (n := n) (.lst (ps.map encPr)) ps [] none none none List.nodup_nil (by show 0 + _ ≤ 100; lia) hb
  have ex : x_check_pairs C CB [some (.val (.lst (ps.map encPr))), some (.val (.int (n : Int))), none, none, none, none] = _ := (xSeq_nx (ρ' := RC (.lst (ps.map encPr)) n [] none none none) (xOk_eq rfl)).trans ((xFor_eq (iLst_eq rfl)).trans e)
  cases hg : chk n [] ps with
  | true => rw [hg] at ex; exact runX_nx ex
  | false => rw [hg] at ex; exact runX_xr ex
end CR
set_option maxHeartbeats 1000000
namespace CR
open PySem PySem.Spec L2 DL SQ
variable {C CB : Addr}
theorem inL_n {κ : Type} [DecidableEq κ] {x : κ} {l : List κ} (h : x ∉ l) : inL x l = false := decide_eq_false h
theorem okP_inr (n : Nat) (p : Pr) : okP n p = inr n p := by
  unfold okP inr
  rw [Bool.eq_iff_iff]
  simp only [Bool.and_eq_true, decide_eq_true_eq]
  constructor
  · rintro ⟨h1, h2⟩
    split at h1 <;> split at h2 <;> lia
  · rintro ⟨⟨a, b⟩, c, d⟩
    refine ⟨?_, ?_⟩ <;> split <;> lia
theorem range_list {α : Type} (ks : List α) (d : α) : (List.range ks.length).map (fun i => ks.getD i d) = ks := by
  refine List.ext_getElem? fun i => ?_
  rw [List.getElem?_map]
  by_cases h : i < ks.length
  · rw [List.getElem?_range h, List.getElem?_eq_getElem h]
    simp [h]
  · rw [List.getElem?_eq_none (by simpa using h), List.getElem?_eq_none (by simpa using h)]
    rfl
theorem fold_len {K : Type} [DecidableEq K] : ∀ (ks acc : List (List K)), acc.Nodup → (ks.foldl addK acc).length ≤ acc.length + ks.length ∧ ((ks.foldl addK acc).length = acc.length + ks.length ↔ (acc ++ ks).Nodup)
  | [], acc, h => by simp [h]
  | k :: ks, acc, h => by
    rw [List.foldl_cons, show addK acc k = if k ∈ acc then acc else acc ++ [k] from rfl]
    by_cases z : k ∈ acc
    · rw [if_pos z]
      obtain ⟨h1, h2⟩ := fold_len ks acc h
      refine ⟨by rw [List.length_cons]; omega, ⟨fun e => ?_, fun e => ?_⟩⟩
      · rw [List.length_cons] at e; omega
      · exact absurd rfl ((List.nodup_append.mp e).2.2 k z k List.mem_cons_self)
    · rw [if_neg z]
      have nd : (acc ++ [k]).Nodup := List.nodup_append.mpr ⟨h, List.nodup_cons.mpr ⟨List.not_mem_nil, List.nodup_nil⟩, fun a ha c hc q => by
        rw [List.mem_singleton.mp hc] at q
        rw [q] at ha
        exact z ha⟩
      obtain ⟨h1, h2⟩ := fold_len ks (acc ++ [k]) nd
      rw [List.length_append, List.length_singleton] at h1 h2
      have e3 : (acc ++ [k]) ++ ks = acc ++ k :: ks := by simp
      rw [e3] at h2
      refine ⟨by rw [List.length_cons]; omega, ?_⟩
      rw [← h2, List.length_cons]
      constructor <;> intro e <;> omega
theorem goodN_iff (ps : List Pr) : goodN ps = true ↔ (ps.map kp).Nodup := by
  unfold goodN nD firstK
  have e := range_list (ps.map kp) ([] : List Key)
  rw [List.length_map] at e
  rw [e, decide_eq_true_eq]
  have := (fold_len (ps.map kp) [] List.nodup_nil).2
  rw [List.length_map, List.nil_append, List.length_nil] at this
  rw [← this]
  constructor <;> intro e <;> omega
theorem chk_iff (n : Nat) : ∀ (ps : List Pr) (ks : List (List Key)), ks.Nodup → (chk n ks ps = true ↔ (∀ p ∈ ps, inr n p = true) ∧ (ks ++ ps.map kp).Nodup)
  | [], ks, h => by simp [chk, h]
  | p :: ps, ks, h => by
    show (inr n p && (!inL (kp p) ks && chk n (ks ++ [kp p]) ps)) = true ↔ _
    rw [Bool.and_eq_true, Bool.and_eq_true, Bool.not_eq_true']
    have e3 : (ks ++ [kp p]) ++ ps.map kp = ks ++ (p :: ps).map kp := by simp
    constructor
    · rintro ⟨h1, h2, h3⟩
      have nd : (ks ++ [kp p]).Nodup := List.nodup_append.mpr ⟨h, List.nodup_cons.mpr ⟨List.not_mem_nil, List.nodup_nil⟩, fun a ha c hc q => by
        rw [List.mem_singleton.mp hc] at q
        rw [q] at ha
        exact inL_f h2 ha⟩
      obtain ⟨a, b⟩ := (chk_iff n ps _ nd).mp h3
      rw [e3] at b
      exact ⟨fun q hq => (List.mem_cons.mp hq).elim (fun z => by rw [z]; exact h1) (a q), b⟩
    · rintro ⟨a, b⟩
      rw [← e3] at b
      have nd := (List.nodup_append.mp b).1
      have hn : kp p ∉ ks := fun z => (List.nodup_append.mp nd).2.2 _ z _ (List.mem_singleton.mpr rfl) rfl
      refine ⟨a p List.mem_cons_self, ?_, (chk_iff n ps _ nd).mpr ⟨fun q hq => a q (List.mem_cons_of_mem _ hq), b⟩⟩
      exact inL_n hn
theorem chk_good (n : Nat) (ps : List Pr) : chk n [] ps = (goodN ps && goodP n ps) := by
  rw [Bool.eq_iff_iff, Bool.and_eq_true, goodN_iff, chk_iff n ps [] List.nodup_nil, List.nil_append]
  unfold goodP
  rw [List.all_map, List.all_eq_true]
  constructor
  · rintro ⟨a, b⟩
    exact ⟨b, fun p hp => by show okP n p = true; rw [okP_inr]; exact a p hp⟩
  · rintro ⟨b, a⟩
    exact ⟨fun p hp => by rw [← okP_inr]; exact a p hp, b⟩
theorem ev_add : ∀ (qs pre : List Pr), ((pre ++ qs).map kp).Nodup → (pre ++ qs).length ≤ 1000 → addD (qs.map encPr) (pre.map kp) (pre.map fun p => D.int p.2) = some ((pre ++ qs).map kp, (pre ++ qs).map fun p => D.int p.2)
  | [], pre, _, _ => by rw [List.append_nil]; rfl
  | p :: qs, pre, nd, hl => by
    have sl' := sl1
    have e1 : pre ++ p :: qs = (pre ++ [p]) ++ qs := by simp
    rw [e1] at nd hl ⊢
    have nd1 : ((pre ++ [p]).map kp).Nodup := by
      rw [List.map_append] at nd
      exact (List.nodup_append.mp nd).1
    rw [List.map_append] at nd1
    have hnot : kp p ∉ pre.map kp := fun z => (List.nodup_append.mp nd1).2.2 _ z _ (List.mem_singleton.mpr rfl) rfl
    obtain ⟨k1, k2⟩ := put_new (ks := pre.map kp) (ds := pre.map fun p => D.int p.2) (x := kp p) (d := .int p.2) (by simp) hnot
    rw [List.length_append, List.length_append, List.length_singleton] at hl
    have ih := ev_add qs (pre ++ [p]) nd (by rw [List.length_append, List.length_append, List.length_singleton]; exact hl)
    show (if (pre.map kp).Nodup ∧ (pre.map kp).length < sizeLine then addD (qs.map encPr) (putKs (pre.map kp) (kp p)) (putDs (pre.map kp) (pre.map fun p => D.int p.2) (kp p) (.int p.2)) else none) = _
    rw [if_pos ⟨(List.nodup_append.mp nd1).1, by rw [List.length_map]; lia⟩, k1, k2]
    rw [List.map_append, List.map_append] at ih
    exact ih
noncomputable abbrev fdsW (ws : List Wd) (ps : List Pr) : List D := [.lst (ws.map fun p => .str p.1), .lst (ws.map fun p => .int p.2), .dT (ps.map kp) (ps.map fun p => D.int p.2)]
theorem ev_FM {ws : List Wd} {ps : List Pr} (hw : ws.length ≤ 100) (he : ∀ u ∈ ws, ∃ n ∈ eight, u.1 = aS n) (hl : ps.length ≤ 100) (hb : ∀ p ∈ ps, BP p) :
    FM_Words C CB [.lst (ws.map encW), .lst (ps.map encPr)] = if (goodW ws && goodN ps && goodP ws.length ps) then some (.inl (fdsW ws ps)) else some (.inr CB) := by
  have sl' := sl1
  have e1 := ev_check_words (C := C) (CB := CB) hw he
  have e2 := ev_check_pairs (C := C) (CB := CB) (n := ws.length) hl hb
  rw [chk_good] at e2
  have e3 : e_texts [none, some (.val (.lst (ws.map encW))), some (.val (.lst (ps.map encPr))), none, none, none] = some (.lst (ws.map fun p => .str p.1)) := by
    refine (fComp_eq (iLst_eq rfl) (by rw [List.length_map]; lia) (compD_typed (n := 2) (ft := tTwo 0 1) (f := fFlat (fVar 0)) (ρ := [none, none]) encW (fun p : Wd => D.str p.1) id (fun p => [some (.val (.str p.1)), some (.val (.int p.2))]) ws fun p _ => ⟨rfl, rfl, rfl⟩)).trans ?_
    rw [List.map_id]
  have e4 : e_costs [none, some (.val (.lst (ws.map encW))), some (.val (.lst (ps.map encPr))), none, none, none] = some (.lst (ws.map fun p => .int p.2)) := by
    refine (fComp_eq (iLst_eq rfl) (by rw [List.length_map]; lia) (compD_typed (n := 2) (ft := tTwo 0 1) (f := fFlat (fVar 1)) (ρ := [none, none]) encW (fun p : Wd => D.int p.2) id (fun p => [some (.val (.str p.1)), some (.val (.int p.2))]) ws fun p _ => ⟨rfl, rfl, rfl⟩)).trans ?_
    rw [List.map_id]
  show ((FX_check_words C CB [.lst (ws.map encW)]).bind fun r => match r with
    | .xr B => if B = CB then some (Sum.inr B : List D ⊕ Addr) else none
    | .val _ => (FX_check_pairs C CB [.lst (ps.map encPr), .int ((ws.map encW).length : Int)]).bind fun r => match r with
      | .xr B => if B = CB then some (Sum.inr B : List D ⊕ Addr) else none
      | .val _ => (e_texts [none, some (.val (.lst (ws.map encW))), some (.val (.lst (ps.map encPr))), none, none, none]).bind fun t => (e_costs [none, some (.val (.lst (ws.map encW))), some (.val (.lst (ps.map encPr))), none, none, none]).bind fun c => (addD (ps.map encPr) [] []).bind fun q => if q.2.all scalD then some (Sum.inl [t, c, .dT q.1 q.2] : List D ⊕ Addr) else none) = _
  rw [List.length_map, e1]
  cases g1 : goodW ws with
  | false => exact if_pos rfl
  | true =>
    rw [if_pos rfl]
    dsimp only [Option.bind]
    rw [e2]
    cases g2 : (goodN ps && goodP ws.length ps) with
    | false =>
      rw [Bool.and_assoc, g2]
      exact if_pos rfl
    | true =>
      rw [Bool.and_assoc, g2, if_pos rfl, e3, e4]
      have nd : (ps.map kp).Nodup := (goodN_iff ps).mp (Bool.and_eq_true_iff.mp g2).1
      have e5 : addD (ps.map encPr) [] [] = some (ps.map kp, ps.map fun p => D.int p.2) := ev_add ps [] nd (by rw [List.nil_append]; lia)
      dsimp only [Option.bind]
      rw [e5]
      refine (if_pos ?_).trans rfl
      rw [List.all_map]
      exact List.all_eq_true.mpr fun _ _ => rfl
end CR
set_option maxHeartbeats 1000000
namespace CR
open PySem PySem.Spec L2 DL SQ
variable {C CB : Addr}
noncomputable def isA (u : Wd) : Bool := u.1 == ("a" : Str)
theorem st_a : ∀ n ∈ eight, (aS n).length = 0 ∨ startsAt "a" (aS n) 0 = (aS n == ("a" : Str)) := by decide +kernel
theorem len_a : ∀ n ∈ eight, (aS n == ("a" : Str)) = true → (aS n).length = 1 := by decide +kernel
noncomputable abbrev tCC : Rho → Option Bool := bTru (f3 gStarts (fVar 2) (fVar 0) (fVar 1))
noncomputable abbrev fCC : Fe := fIxOwn 3 (f2 gAdd (fVar 1) (fA gLenS (aCons (fVar 0) aNil)))
noncomputable abbrev RS (x0 : Option Sl) : Rho := [x0, some (.val (.int 0)), some (.val (.str "a")), some (.own [.int 0, .int 1])]
theorem comp_cc : ∀ (us : List Wd), (∀ u ∈ us, ∃ n ∈ eight, u.1 = aS n) → (∀ u ∈ us, okW u = true) → compD 1 (tName 0) tCC fCC (us.map fun p => D.str p.1) (RS none) = some ((us.filter isA).map fun _ => D.int 1)
  | [], _, _ => rfl
  | u :: us, h, ho => by
    have sl' := sl1
    have ih := comp_cc us (fun v hv => h v (List.mem_cons_of_mem _ hv)) fun v hv => ho v (List.mem_cons_of_mem _ hv)
    obtain ⟨n, hn, e⟩ := h u List.mem_cons_self
    have ok := ho u List.mem_cons_self
    have l1 := aS_len n hn
    have s1 := st_a n hn
    have s2 := len_a n hn
    rw [← e] at l1 s1 s2
    have s1' : startsAt "a" u.1 0 = isA u := by
      rcases s1 with z | z
      · unfold okW at ok
        rw [z] at ok
        cases ok
      · exact z
    have et : tCC (RS (some (.val (.str u.1)))) = some (isA u) := by
      rw [← s1']
      exact (bTru_eq (x := .bl (startsAt "a" u.1 0)) rfl).trans rfl
    show (tCC (RS (some (.val (.str u.1))))).bind (fun b => if b then (fCC (RS (some (.val (.str u.1))))).bind fun y => (compD 1 (tName 0) tCC fCC (us.map fun p => D.str p.1) (RS none)).bind fun ys => some (y :: ys) else compD 1 (tName 0) tCC fCC (us.map fun p => D.str p.1) (RS none)) = _
    rw [et, ih]
    cases hA : isA u with
    | false =>
      rw [List.filter_cons_of_neg (by rw [hA]; decide)]
      rfl
    | true =>
      rw [List.filter_cons_of_pos hA]
      have ef : fCC (RS (some (.val (.str u.1)))) = some (.int 1) := by
        have e2 : f2 gAdd (fVar 1) (fA gLenS (aCons (fVar 0) aNil)) (RS (some (.val (.str u.1)))) = some (.int 1) := by
          refine (f2_eq (x := .int 0) (y := .int 1) rfl ?_).trans rfl
          refine (fA_eq (ds := [.str u.1]) rfl).trans ((if_pos (by lia)).trans ?_)
          rw [s2 hA]
          rfl
        show (match (some (some (Sl.own [.int 0, .int 1])) : Option (Option Sl)), f2 gAdd (fVar 1) (fA gLenS (aCons (fVar 0) aNil)) (RS (some (.val (.str u.1)))) with
          | some (some (.ow (.lst ds))), some (.int k) => atI ds k
          | _, _ => none) = _
        rw [e2]
        rfl
      show (fCC (RS (some (.val (.str u.1))))).bind _ = _
      rw [ef]
      rfl
theorem sum_ones {α : Type} : ∀ (l : List α), ((l.map fun _ => D.int 1).mapM asI).map (fun ns => D.int ns.sum) = some (.int (l.length : Int)) := fun l => by
  have : ∀ l : List α, (l.map fun _ => D.int 1).mapM asI = some (l.map fun _ => (1 : Int)) := fun l => by
    induction l with
    | nil => rfl
    | cons a l ih => rw [List.map_cons, List.mapM_cons, ih]; rfl
  rw [this]
  have s : (l.map fun _ => (1 : Int)).sum = (l.length : Int) := by
    induction l with
    | nil => rfl
    | cons a l ih => rw [List.map_cons, List.sum_cons, ih, List.length_cons]; lia
  rw [Option.map_some, s]
end CR
set_option maxHeartbeats 1000000
namespace CR
open PySem PySem.Spec L2 DL SQ
variable {C CB : Addr}
noncomputable abbrev wD (C : Addr) (ws : List Wd) (ps : List Pr) : D := .ins C ns_Words (fdsW ws ps)
theorem iRngDn_eq {f h l : Fe} {ρ : Rho} {n : Nat} (e1 : f ρ = some (.int ((n : Int) - 1))) (e2 : h ρ = some (.int (-1))) (e3 : l ρ = some (.int (-1))) (hn : n ≤ 1000) : iRngDn f h l ρ = some ((List.range n).map fun (k : Nat) => D.int ((n : Int) - 1 + (k : Int) * -1)) := by
  unfold iRngDn
  rw [e1, e2, e3]
  show (if _ then _ else none) = _
  rw [if_pos ⟨by lia, by lia, by lia, by lia⟩, show ((n : Int) - 1 - (-1)).toNat = n from by lia]
theorem ev_count {ws : List Wd} {ps : List Pr} (hw : ws.length ≤ 100) (h : ∀ u ∈ ws, ∃ n ∈ eight, u.1 = aS n) (ho : ∀ u ∈ ws, okW u = true) : F_count_cuts C CB [wD C ws ps, .str "a"] = some (.int ((ws.filter isA).length : Int)) := by
  have sl' := sl1
  refine (runA_eq).trans (run_rt ?_)
  show gSeq _ _ [some (.val (wD C ws ps)), some (.val (.str "a")), none, none] = _
  have e1 : fComp 1 [] (iStr (fVar 1)) (tName 0) bTrue (fC (.int 0)) [some (.val (wD C ws ps)), some (.val (.str "a")), none, none] = some (.lst [.int 0]) := fComp_eq (ds := [.str "a"]) rfl (by show 1 ≤ sizeLine; lia) rfl
  have e2 : fA gLst (aCons (fC (.int 1)) aNil) [some (.val (wD C ws ps)), some (.val (.str "a")), none, none] = some (.lst [.int 1]) := (fA_eq (ds := [.int 1]) rfl).trans (if_pos (by show 1 ≤ sizeLine; lia))
  have e3 : gCatN 2 (fComp 1 [] (iStr (fVar 1)) (tName 0) bTrue (fC (.int 0))) (fA gLst (aCons (fC (.int 1)) aNil)) [some (.val (wD C ws ps)), some (.val (.str "a")), none, none] = some (.nx [some (.val (wD C ws ps)), some (.val (.str "a")), some (.own [.int 0, .int 1]), none]) := by
    unfold gCatN
    rw [e1, e2]
    exact if_pos (e := none) (by show 2 ≤ sizeLine; lia)
  refine (gSeq_nx e3).trans ?_
  have el : f2 gSub (fA gLenS (aCons (fVar 1) aNil)) (fC (.int 1)) [some (.val (wD C ws ps)), some (.val (.str "a")), some (.own [.int 0, .int 1]), none] = some (.int (((1 : Nat) : Int) - 1)) := (f2_eq (x := .int 1) (y := .int 1) ((fA_eq (ds := [.str "a"]) rfl).trans (if_pos (e := none) (by show 1 ≤ sizeLine; lia))) rfl).trans rfl
  refine (gSeq_nx (ρ' := [some (.val (wD C ws ps)), some (.val (.str "a")), some (.own [.int ((ws.filter isA).length : Int), .int 1]), some (.val (.int 0))]) ((gFor_eq (iRngDn_eq el rfl rfl (by decide))).trans ?_)).trans rfl
  have ec : fComp 1 [(("place" : Str), 3), (("text" : Str), 1), (("ways" : Str), 2)] (iLst (f1 (gFld C ("texts" : Str)) (fVar 0))) (tName 0) tCC fCC [some (.val (wD C ws ps)), some (.val (.str "a")), some (.own [.int 0, .int 1]), some (.val (.int 0))] = some (.lst ((ws.filter isA).map fun _ => D.int 1)) := by
    refine fComp_eq (ds := ws.map fun p => D.str p.1) (iLst_eq ((f1_eq (x := wD C ws ps) rfl).trans ?_)) (by rw [List.length_map]; lia) (comp_cc ws h ho)
    exact (if_pos rfl).trans rfl
  have eb : gPutL 2 (fVar 3) (fA gSum (aCons (fComp 1 [(("place" : Str), 3), (("text" : Str), 1), (("ways" : Str), 2)] (iLst (f1 (gFld C ("texts" : Str)) (fVar 0))) (tName 0) tCC fCC) aNil)) [some (.val (wD C ws ps)), some (.val (.str "a")), some (.own [.int 0, .int 1]), some (.val (.int 0))] = some (.nx [some (.val (wD C ws ps)), some (.val (.str "a")), some (.own [.int ((ws.filter isA).length : Int), .int 1]), some (.val (.int 0))]) := by
    have es : fA gSum (aCons (fComp 1 [(("place" : Str), 3), (("text" : Str), 1), (("ways" : Str), 2)] (iLst (f1 (gFld C ("texts" : Str)) (fVar 0))) (tName 0) tCC fCC) aNil) [some (.val (wD C ws ps)), some (.val (.str "a")), some (.own [.int 0, .int 1]), some (.val (.int 0))] = some (.int ((ws.filter isA).length : Int)) :=
      (fA_eq (ds := [.lst ((ws.filter isA).map fun _ => D.int 1)]) (aCons_eq ec rfl)).trans (sum_ones (ws.filter isA))
    unfold gPutL
    rw [es]
    rfl
  show ((gPutL 2 (fVar 3) (fA gSum (aCons (fComp 1 [(("place" : Str), 3), (("text" : Str), 1), (("ways" : Str), 2)] (iLst (f1 (gFld C ("texts" : Str)) (fVar 0))) (tName 0) tCC fCC) aNil)) [some (.val (wD C ws ps)), some (.val (.str "a")), some (.own [.int 0, .int 1]), some (.val (.int 0))]).bind _) = _
  rw [eb]
  rfl
end CR
set_option maxHeartbeats 1000000
namespace CR
open PySem PySem.Spec L2 DL SQ
variable {C CB : Addr}
noncomputable abbrev tEA : Rho → Option Bool := bTest (f2 gEqS (f2 gIx (fVar 0) (fC (.int 0))) (fC (.str "a")))
theorem comp_ea : ∀ us : List Wd, compD 1 (tName 0) tEA (fVar 0) (us.map encW) [none] = some ((us.filter isA).map encW)
  | [] => rfl
  | u :: us => by
    have ih := comp_ea us
    have et : tEA [some (.val (encW u))] = some (isA u) := bTest_eq ((f2_eq (x := .str u.1) (y := .str "a") rfl rfl).trans rfl)
    show (tEA [some (.val (encW u))]).bind (fun b => if b then (some (encW u)).bind fun y => (compD 1 (tName 0) tEA (fVar 0) (us.map encW) [none]).bind fun ys => some (y :: ys) else compD 1 (tName 0) tEA (fVar 0) (us.map encW) [none]) = _
    rw [et, ih]
    cases hA : isA u with
    | false => rw [List.filter_cons_of_neg (by rw [hA]; decide)]; rfl
    | true => rw [List.filter_cons_of_pos hA]; rfl
theorem ev_lawB {ns : List Int} {ws : List Wd} {ps : List Pr} {x2 x3 x5 x6 x8 : Option Sl} (hw : ws.length ≤ 100) (h : ∀ u ∈ ws, ∃ n ∈ eight, u.1 = aS n) (ho : ∀ u ∈ ws, okW u = true) :
    g_lawB C CB (R8 ns (ws.map encW) (ps.map encPr) true x2 x3 x5 x6 x8 none (some (.val .non)) (some (.val (wD C ws ps))) none none) = some (.rt (.bl true)) := by
  have sl' := sl1
  refine (gSeq_nx (ρ' := R8 ns (ws.map encW) (ps.map encPr) true x2 x3 x5 x6 x8 none (some (.val .non)) (some (.val (wD C ws ps))) none (some (.val (.int ((ws.filter isA).length : Int))))) ((gSet_eq ((fIf_t (bTest_eq (b := true) rfl)).trans ((fA_eq (ds := [wD C ws ps, .str "a"]) rfl).trans (ev_count hw h ho)))).trans rfl)).trans ?_
  refine gRet_eq ((fAnd_bl (a := true) (b := true) ((fA_eq (ds := [.int ((ws.filter isA).length : Int)]) rfl).trans rfl) ((f2_eq (x := .int ((ws.filter isA).length : Int)) (y := .int ((ws.filter isA).length : Int)) rfl ?_).trans ?_)).trans rfl)
  · refine (fA_eq (ds := [.lst ((ws.filter isA).map encW)]) (aCons_eq (fComp_eq (iLst_eq rfl) (by rw [List.length_map]; lia) (comp_ea ws)) rfl)).trans ?_
    show some (D.int (((ws.filter isA).map encW).length : Int)) = _
    rw [List.length_map]
  · show some (D.bl (decide (((ws.filter isA).length : Int) = ((ws.filter isA).length : Int)))) = _
    rw [decide_eq_true rfl]
theorem law_data (ns : List Int) : LawData C CB ns := by
  obtain ⟨ws, ps, x2, x3, x5, x6, hw, he, hp, hb, n2, n3, n5, n6, e0⟩ := ev_front (C := C) (CB := CB) ns
  have eF := ev_FM (C := C) (CB := CB) (ws := ws) (ps := ps) (by lia) he (by lia) hb
  refine ⟨ws.map encW, ps.map encPr, goodW ws && goodN ps && goodP ws.length ps, x2, x3, x5, x6, _, e0, fun i o e => ?_, by rw [List.length_map]; lia, ?_, fun hg => ?_, fun hg => ⟨fdsW ws ps, ?_, ?_⟩⟩
  · match i, e with
    | 0, e => cases e
    | 1, e => cases e
    | 2, e => exact n2 o (Option.some.inj e)
    | 3, e => exact n3 o (Option.some.inj e)
    | 4, e => cases e
    | 5, e => exact n5 o (Option.some.inj e)
    | 6, e => exact n6 o (Option.some.inj e)
    | 7, e => cases e
    | 8, e => cases e
    | 9, e => cases e
    | 10, e => cases e
    | 11, e => cases e
    | 12, e => cases e
    | 13, e => cases e
  · show (((ws.map encW).all (okT 6)) && (((ps.map encPr).all (okT 6)) && true)) = true
    rw [List.all_map, List.all_map]
    have a1 : ws.all (okT 6 ∘ encW) = true := List.all_eq_true.mpr fun _ _ => rfl
    have a2 : ps.all (okT 6 ∘ encPr) = true := List.all_eq_true.mpr fun _ _ => rfl
    rw [a1, a2]
    rfl
  · rw [hg] at eF
    exact eF
  · rw [hg] at eF
    exact eF
  · refine ev_lawB (by lia) he fun u hu => ?_
    have g1 : goodW ws = true := (Bool.and_eq_true_iff.mp (Bool.and_eq_true_iff.mp hg).1).1
    unfold goodW at g1
    rw [Bool.and_eq_true, List.all_map, List.all_eq_true] at g1
    exact g1.2 u hu
end CR
namespace DL
open PySem PySem.Spec L2 PyProof.Rows
theorem own_mk {K : PySem.W.Frag} {h : Heap} {mg : Str → Option Value} {x : Str} {C : Addr} {bmB : List Value} {newId : String} (X : K.In h) (G : h.Ns mainGlobals mg) (e : PySem.W.nsIn K mainGlobals x = some (some (.ref C))) (q : PySem.W.excIn K C bmB newId = true) : OwnCls x C bmB newId mg h := by
  refine ⟨PySem.W.mg_of X G e, ?_⟩
  unfold PySem.W.excIn at q
  split at q
  case h_2 => cases q
  rename_i dd cd sl look
  split at q
  case h_2 => cases q
  rename_i c1 below s0 s1 s2 s3 made s5 order slots
  simp only [Bool.and_eq_true, beq_iff_eq, Bool.not_eq_true'] at q
  obtain ⟨⟨⟨⟨⟨q1, q2⟩, q3⟩, q4⟩, q5⟩, q6⟩ := q
  subst q1 q2
  obtain ⟨c_name, c_bases, c_mro, c_ns, c_qual, c_dict, c_slots, c_sub, c_abs, c_col, c_del⟩ := cd
  dsimp only at order q3 q5 q6
  subst order q3
  have hs : sl = #[s0, s1, s2, s3, some (.builtin made), s5] := Array.toList_inj.mp slots
  subst hs
  exact ⟨below, c_ns, c_name, c_qual, c_bases, c_dict, c_slots, c_sub, c_abs, c_col, dd, s0, s1, s2, s3, s5, _, X _ _ look, .of_isNs (PySem.W.isNs_of_in X q5), PySem.W.nsMap_none_of_in X q5 q6, PySem.W.tail_of_in X q4⟩
end DL
set_option maxHeartbeats 4000000
namespace DL
open PySem PySem.Spec L2
structure DefAt (K : PySem.W.Frag) (x : Str) (st : Stmt) : Prop where
  ex : ∃ (f : Addr) (fd : FuncData), PySem.W.nsIn K mainGlobals x = some (some (.ref f)) ∧ Fun K x x st f fd
theorem defAt_mk {K : PySem.W.Frag} {x : Str} {st : Stmt} {f : Addr} {oc : Value} {od an : Option Addr} {osl : Array (Option Value)} {kV doc pm cdv ct : Value} (a : PySem.W.nsIn K mainGlobals x = some (some (.ref f)))
    (l : K.lookup f = some ⟨oc, od, .func (PySem.W.fnOf x x (defArgs st) (defBody st) (defScope st) .none kV doc pm an cdv ct), osl⟩) (c : PySem.W.codeIn K cdv x = true) (k : PySem.W.keepIn K (.ref f) = true) : DefAt K x st := ⟨f, _, a, fun_mk l c k⟩
structure MethAt (K : PySem.W.Frag) (C : Addr) (m qual : Str) (st : Stmt) : Prop where
  ex : ∃ (f : Addr) (fd : FuncData), PySem.W.findIn K (.ref C) m = some (some (.ref f)) ∧ PySem.W.isFn K (.ref f) = true ∧ Fun K m qual st f fd
theorem methAt_mk {K : PySem.W.Frag} {C : Addr} {m qual : Str} {st : Stmt} {f : Addr} {oc : Value} {od an : Option Addr} {osl : Array (Option Value)} {kV doc pm cdv ct : Value} (a : PySem.W.findIn K (.ref C) m = some (some (.ref f))) (i : PySem.W.isFn K (.ref f) = true)
    (l : K.lookup f = some ⟨oc, od, .func (PySem.W.fnOf m qual (defArgs st) (defBody st) (defScope st) .none kV doc pm an cdv ct), osl⟩) (c : PySem.W.codeIn K cdv qual = true) (k : PySem.W.keepIn K (.ref f) = true) : MethAt K C m qual st := ⟨f, _, a, i, fun_mk l c k⟩
theorem const_mk {K : PySem.W.Frag} {x : Str} {v : Value} {i : Int} (a : PySem.W.nsIn K mainGlobals x = some (some v)) (b : ∃ t, v = .int i t) : ∃ v, PySem.W.nsIn K mainGlobals x = some (some v) ∧ ∃ t, v = .int i t := ⟨v, a, b⟩
theorem kit_bool (K : PySem.W.Frag) : KitOk K "bool" := ⟨fun t h => by
  rcases h with rfl | rfl | rfl | rfl | rfl | rfl <;> kernel_rfl⟩
theorem kit_int (K : PySem.W.Frag) : KitOk K "int" := ⟨fun t h => by
  rcases h with rfl | rfl | rfl | rfl | rfl | rfl <;> kernel_rfl⟩
theorem len1 {α : Type} {us : List α} (h : us.length = 1) : ∃ a, us = [a] := by
  match us, h with
  | [a], _ => exact ⟨a, rfl⟩
theorem len2 {α : Type} {us : List α} (h : us.length = 2) : ∃ a b, us = [a, b] := by
  match us, h with
  | [a, b], _ => exact ⟨a, b, rfl⟩
theorem len3 {α : Type} {us : List α} (h : us.length = 3) : ∃ a b c, us = [a, b, c] := by
  match us, h with
  | [a, b, c], _ => exact ⟨a, b, c, rfl⟩
theorem len4 {α : Type} {us : List α} (h : us.length = 4) : ∃ a b c d, us = [a, b, c, d] := by
  match us, h with
  | [a, b, c, d], _ => exact ⟨a, b, c, d, rfl⟩
theorem len5 {α : Type} {us : List α} (h : us.length = 5) : ∃ a b c d e, us = [a, b, c, d, e] := by
  match us, h with
  | [a, b, c, d, e], _ => exact ⟨a, b, c, d, e, rfl⟩
end DL
set_option maxHeartbeats 4000000
namespace CR
open PySem PySem.Spec L2 DL PyProof.Rows
theorem all_mk {l : PySem.W.OpenLaw} {w : World} {K : PySem.W.Frag} {h : Heap} {mg : Str → Option Value} {fa C CB CR C1 C2 : Addr} (X : K.In h) (G : h.Ns mainGlobals mg) (hfa : mg "law" = some (.ref fa))
    (aC : PySem.W.nsIn K mainGlobals "Words" = some (some (.ref C)))
    (u_check_words : DefAt K "check_words" s_check_words)
    (u_check_pairs : DefAt K "check_pairs" s_check_pairs)
    (u_count_cuts : DefAt K "count_cuts" s_count_cuts)
    (u_Lcell : DefAt K "_law_cell" s_Lcell)
    (u_Lmix : DefAt K "_law_mix" s_Lmix)
    (u_Lwhole : DefAt K "_law_whole" s_Lwhole)
    (u_law : DefAt K "law" s_law)
    (u_init : MethAt K C "__init__" "Words.__init__" s_init)
    (pg : PySem.W.plainGet K C Str.empty = true)
    (hd : PySem.W.hasDictIn K C = true)
    (po : PySem.W.plainOver K C = true)
    (sa : PySem.W.findIn K (.ref C) "__setattr__" = some (some (.builtin "object.__setattr__")))
    (mk : PySem.W.makesIn K C = true)
    (kc : PySem.W.keepIn K (.ref C) = true)
    (b_ValueError : PySem.W.nsIn K mainGlobals "ValueError" = some none)
    (b_all : PySem.W.nsIn K mainGlobals "all" = some none)
    (b_bool : PySem.W.nsIn K mainGlobals "bool" = some none)
    (b_int : PySem.W.nsIn K mainGlobals "int" = some none)
    (b_isinstance : PySem.W.nsIn K mainGlobals "isinstance" = some none)
    (b_len : PySem.W.nsIn K mainGlobals "len" = some none)
    (b_list : PySem.W.nsIn K mainGlobals "list" = some none)
    (b_max : PySem.W.nsIn K mainGlobals "max" = some none)
    (b_min : PySem.W.nsIn K mainGlobals "min" = some none)
    (b_range : PySem.W.nsIn K mainGlobals "range" = some none)
    (b_set : PySem.W.nsIn K mainGlobals "set" = some none)
    (b_sum : PySem.W.nsIn K mainGlobals "sum" = some none)
    (c_MOST_SIGNS : ∃ v, PySem.W.nsIn K mainGlobals "MOST_SIGNS" = some (some v) ∧ ∃ t, v = .int 12 t)
    (c_MOST_WORDS : ∃ v, PySem.W.nsIn K mainGlobals "MOST_WORDS" = some (some v) ∧ ∃ t, v = .int 30 t)
    (n_texts : PySem.W.findIn K (.ref C) "texts" = some none)
    (xeB : PySem.W.nsIn K mainGlobals "BadWords" = some (some (.ref CB)))
    (xeR : PySem.W.nsIn K mainGlobals "ReadError" = some (some (.ref CR)))
    (xe1 : PySem.W.nsIn K mainGlobals "BadChain" = some (some (.ref C1)))
    (xe2 : PySem.W.nsIn K mainGlobals "BadGrammar" = some (some (.ref C2)))
    (xin : PySem.W.excIn K CB [.type "ValueError", .type "Exception", .type "BaseException", .type "object"] "ValueError.__new__" = true)
    (xga : PySem.W.findIn K (.ref CB) "__getattribute__" = some (some (.builtin "BaseException.__getattribute__")))
    (xgh : PySem.W.findIn K (.ref CB) "__getattr__" = some none)
    (xcl : PySem.W.findIn K (.ref CB) "__class__" = some (some (.builtin "object.__class__")))
    (xmb : PySem.W.mroIn K CB (.type "BaseException") = some true)
    (xmo : PySem.W.mroIn K CB (.type "object") = some true)
    (xic : PySem.W.isClsIn K CB = true)
    (xk1 : PySem.W.kitAny K (.type "NoneType") [.ref CB] = some false)
    (xk2 : PySem.W.kitAny K (.ref CB) [.ref CB] = some true)
    (xk3 : PySem.W.kitAny K (.type "NoneType") [.type "ValueError"] = some false)
    (xk4 : PySem.W.kitAny K (.ref CB) [.type "ValueError"] = some true)
    (xk5 : PySem.W.kitAny K (.type "NoneType") [.ref C1, .ref C2] = some false)
    (xk6 : PySem.W.kitAny K (.ref CB) [.ref C1, .ref C2] = some false)
    (xem : PySem.W.exmOne K (.ref CB) (.ref CR) = some true)
    (n_costs : PySem.W.findIn K (.ref C) "costs" = some none)
    (n_added : PySem.W.findIn K (.ref C) "added" = some none) :
    ∃ fd : FuncData, (∀ (s : Shared) (v : Value), BindsTo s fd ⟨[v], []⟩ [("_law_script", v)]) ∧ ∀ base : Heap, K.In base → base.Ns mainGlobals mg → FnOk l.prog w K mg base CX0 4 fa fd ["_law_script"] (spLaw K) := by
  have T : Txt K mg C := ⟨PySem.W.mg_none_of X G b_ValueError, PySem.W.mg_none_of X G b_all, PySem.W.mg_none_of X G b_bool, PySem.W.mg_none_of X G b_int, PySem.W.mg_none_of X G b_isinstance, PySem.W.mg_none_of X G b_len, PySem.W.mg_none_of X G b_list, PySem.W.mg_none_of X G b_max, PySem.W.mg_none_of X G b_min, PySem.W.mg_none_of X G b_range, PySem.W.mg_none_of X G b_set, PySem.W.mg_none_of X G b_sum, let ⟨v, e, t, ev⟩ := c_MOST_SIGNS; ⟨t, by rw [← ev]; exact PySem.W.mg_of X G e⟩, let ⟨v, e, t, ev⟩ := c_MOST_WORDS; ⟨t, by rw [← ev]; exact PySem.W.mg_of X G e⟩, ⟨pg, hd, po, sa⟩, DL.kit_bool K, DL.kit_int K, n_texts⟩
  obtain ⟨f_check_words, fd_check_words, a_check_words, U_check_words⟩ := u_check_words.ex
  obtain ⟨f_check_pairs, fd_check_pairs, a_check_pairs, U_check_pairs⟩ := u_check_pairs.ex
  obtain ⟨f_count_cuts, fd_count_cuts, a_count_cuts, U_count_cuts⟩ := u_count_cuts.ex
  obtain ⟨f_Lcell, fd_Lcell, a_Lcell, U_Lcell⟩ := u_Lcell.ex
  obtain ⟨f_Lmix, fd_Lmix, a_Lmix, U_Lmix⟩ := u_Lmix.ex
  obtain ⟨f_Lwhole, fd_Lwhole, a_Lwhole, U_Lwhole⟩ := u_Lwhole.ex
  obtain ⟨f_law, fd_law, a_law, U_law⟩ := u_law.ex
  obtain ⟨f_init, fd_init, a_init, i_init, U_init⟩ := u_init.ex
  have b_check_words_ := U_check_words.binds (ps := ["words"]) fun _ _ _ _ _ _ us hl => by obtain ⟨_, rfl⟩ := DL.len1 hl; rfl
  have b_check_pairs_ := U_check_pairs.binds (ps := ["pairs", "many"]) fun _ _ _ _ _ _ us hl => by obtain ⟨_, _, rfl⟩ := DL.len2 hl; rfl
  have b_count_cuts_ := U_count_cuts.binds (ps := ["words", "text"]) fun _ _ _ _ _ _ us hl => by obtain ⟨_, _, rfl⟩ := DL.len2 hl; rfl
  have b_Lcell_ := U_Lcell.binds (ps := ["_law_script", "_law_k"]) fun _ _ _ _ _ _ us hl => by obtain ⟨_, _, rfl⟩ := DL.len2 hl; rfl
  have b_Lmix_ := U_Lmix.binds (ps := ["_law_script", "_law_k"]) fun _ _ _ _ _ _ us hl => by obtain ⟨_, _, rfl⟩ := DL.len2 hl; rfl
  have b_Lwhole_ := U_Lwhole.binds (ps := ["_law_found"]) fun _ _ _ _ _ _ us hl => by obtain ⟨_, rfl⟩ := DL.len1 hl; rfl
  have b_init_ := U_init.binds (ps := ["self", "words", "pairs"]) fun _ _ _ _ _ _ us hl => by obtain ⟨_, _, _, rfl⟩ := DL.len3 hl; rfl
  have e := hfa.symm.trans (PySem.W.mg_of X G a_law)
  cases e
  obtain ⟨oc, od, kV, doc, pm, an, cdv, ct, osl, rfl, lk, hcd⟩ := id U_law.ex
  refine ⟨PySem.W.fnOf "law" "law" (defArgs s_law) (defBody s_law) (defScope s_law) .none kV doc pm an cdv ct, fun s v => .of_eq rfl, fun base kb nb => ?_⟩
  have xk : PySem.W.ExcKit K CB := ⟨xga, xgh, xcl, xmb, xmo, xic⟩
  have V : Exn K mg base CB CR C1 C2 := ⟨DL.own_mk kb nb xeB xin, PySem.W.mg_of X G xeB, PySem.W.mg_of X G xeR, PySem.W.mg_of X G xe1, PySem.W.mg_of X G xe2, ⟨xk1, xk2, xk⟩, ⟨xk3, xk4, xk⟩, ⟨xk5, xk6, xk⟩, xem⟩
  have d_check_words : Dx l.prog w K mg base 1 "check_words" ["words"] (FX_check_words C CB) := dx_F (PySem.W.mg_of X G a_check_words) U_check_words b_check_words_ fs_check_words (fun ds d h => runAX_len h) (fun cdv A outer s H E hr => t_check_words T V cdv A outer s H E hr) (fun ds d h => runAX_run h)
  have d_check_pairs : Dx l.prog w K mg base 1 "check_pairs" ["pairs", "many"] (FX_check_pairs C CB) := dx_F (PySem.W.mg_of X G a_check_pairs) U_check_pairs b_check_pairs_ fs_check_pairs (fun ds d h => runAX_len h) (fun cdv A outer s H E hr => t_check_pairs T V cdv A outer s H E hr) (fun ds d h => runAX_run h)
  have d_count_cuts : Df l.prog w K mg base 1 "count_cuts" ["words", "text"] (F_count_cuts C CB) := df_A (PySem.W.mg_of X G a_count_cuts) U_count_cuts b_count_cuts_ fs_count_cuts (fun cdv A outer s H E hr => t_count_cuts T  cdv A outer s H E hr)
  have d__law_cell : Df l.prog w K mg base 1 "_law_cell" ["_law_script", "_law_k"] F_Lcell := df_F (PySem.W.mg_of X G a_Lcell) U_Lcell b_Lcell_ fs_Lcell (fun ds d h => by unfold F_Lcell at h; split at h <;> first | rfl | cases h) (fun cdv A outer s H E hr => t_Lcell T  cdv A outer s H E hr) (fun ds d h => m_Lcell h)
  have d__law_whole : Df l.prog w K mg base 1 "_law_whole" ["_law_found"] (F_Lwhole C CB) := df_A (PySem.W.mg_of X G a_Lwhole) U_Lwhole b_Lwhole_ fs_Lwhole (fun cdv A outer s H E hr => t_Lwhole T  cdv A outer s H E hr)
  have d__law_mix : Df l.prog w K mg base 2 "_law_mix" ["_law_script", "_law_k"] F_Lmix := df_F (PySem.W.mg_of X G a_Lmix) U_Lmix b_Lmix_ fs_Lmix (fun ds d h => by unfold F_Lmix at h; split at h <;> first | rfl | cases h) (fun cdv A outer s H E hr => t_Lmix T d__law_cell cdv A outer s H E hr) (fun ds d h => m_Lmix h)
  have F_Words := ok_initW (P := l.prog) (w := w) (base := base) (CB := CB) U_init T T.n_texts n_costs n_added d_check_words d_check_pairs
  exact ok_law U_law T V ⟨mk, a_init, i_init, kc⟩ F_Words b_init_ (PySem.W.mg_of X G aC) d__law_mix d__law_whole d_count_cuts (fun ns => law_data ns)
theorem walk {l : PySem.W.OpenLaw} {q : Program} {loose : List Str} {XP : (Str → Option Value) → Heap → Prop} {YP : World → Heap → Prop} {d : DefRec} {K : Params → PySem.W.Frag} (hn : l.most = some 63) (hdf : d.params.defaults = [])
    (hY : ∀ (w : World) (h : Heap), YP w h → (K w.params).In h)
    (F : ∀ (w : World) (mg : Str → Option Value) (fa : Addr) (h : Heap), (K w.params).In h → h.Ns mainGlobals mg → mg d.name = some (.ref fa) →
      ∃ fd : FuncData, (∀ (s : Shared) (u : Value), BindsTo s fd ⟨[u], []⟩ [("_law_script", u)]) ∧ ∀ base : Heap, (K w.params).In base → base.Ns mainGlobals mg → FnOk l.prog w (K w.params) mg base CX0 4 fa fd ["_law_script"] (spLaw (K w.params))) :
    PySem.W.WalkO q loose XP YP l.row.toRowW d [] (fun f vs => PySem.call f vs) :=
  L2.walk_of (n := 63) (k := 4) (x := "_law_script") (CX := fun _ => CX0) (sp := fun w => spLaw (K w.params)) hn (by decide) hdf ⟨rfl, by decide, by decide⟩ hY F (fun _ _ a ns hl _ hS => ⟨_, [.scr ns], .bl true, Same.refl _, .cons (.scr hS) .nil, rfl, fun v H' Hs' g r => by cases r; rfl⟩) fun _ _ _ _ _ z => z
end CR
open PySem PySem.W PyProof.Rows CR
set_option maxRecDepth 100000 in
set_option maxHeartbeats 0 in
theorem PySem.Challenge.cw_cheapread_k21_no_words_holds : PySem.Challenge.rw_cheapread_k21_no_words.Holds := by
  w_on; o_law; k_head; (case hw => w_witness2)
  k_fill
  refine CR.walk (l := PySem.Challenge.rw_cheapread_k21_no_words) rfl rfl (fun w h Y => PySem.W.kIn_of Y) ?F
  case F =>
    intro w mg fa h KX G hmg
    refine' CR.all_mk KX G hmg ?aC ?u_check_words ?u_check_pairs ?u_count_cuts ?u_Lcell ?u_Lmix ?u_Lwhole ?u_law ?u_init ?pg ?hd ?po ?sa ?mk ?kc ?b_ValueError ?b_all ?b_bool ?b_int ?b_isinstance ?b_len ?b_list ?b_max ?b_min ?b_range ?b_set ?b_sum ?c_MOST_SIGNS ?c_MOST_WORDS ?n_texts ?xeB ?xeR ?xe1 ?xe2 ?xin ?xga ?xgh ?xcl ?xmb ?xmo ?xic ?xk1 ?xk2 ?xk3 ?xk4 ?xk5 ?xk6 ?xem ?n_costs ?n_added
    (case aC => k_is)
    (case u_check_words => refine' DL.defAt_mk ?a ?l ?c ?k; (case a => k_is); (case l => k_is); (case c => k_is); (case k => k_is))
    (case u_check_pairs => refine' DL.defAt_mk ?a ?l ?c ?k; (case a => k_is); (case l => k_is); (case c => k_is); (case k => k_is))
    (case u_count_cuts => refine' DL.defAt_mk ?a ?l ?c ?k; (case a => k_is); (case l => k_is); (case c => k_is); (case k => k_is))
    (case u_Lcell => refine' DL.defAt_mk ?a ?l ?c ?k; (case a => k_is); (case l => k_is); (case c => k_is); (case k => k_is))
    (case u_Lmix => refine' DL.defAt_mk ?a ?l ?c ?k; (case a => k_is); (case l => k_is); (case c => k_is); (case k => k_is))
    (case u_Lwhole => refine' DL.defAt_mk ?a ?l ?c ?k; (case a => k_is); (case l => k_is); (case c => k_is); (case k => k_is))
    (case u_law => refine' DL.defAt_mk ?a ?l ?c ?k; (case a => k_is); (case l => k_is); (case c => k_is); (case k => k_is))
    (case u_init => refine' DL.methAt_mk ?a ?i ?l ?c ?k; (case a => k_is); (case i => k_is); (case l => k_is); (case c => k_is); (case k => k_is))
    (case pg => k_is)
    (case hd => k_is)
    (case po => k_is)
    (case sa => k_is)
    (case mk => k_is)
    (case kc => k_is)
    (case b_ValueError => k_is)
    (case b_all => k_is)
    (case b_bool => k_is)
    (case b_int => k_is)
    (case b_isinstance => k_is)
    (case b_len => k_is)
    (case b_list => k_is)
    (case b_max => k_is)
    (case b_min => k_is)
    (case b_range => k_is)
    (case b_set => k_is)
    (case b_sum => k_is)
    (case c_MOST_SIGNS => refine' DL.const_mk ?a ?b; (case a => k_is); (case b => exact ⟨_, rfl⟩))
    (case c_MOST_WORDS => refine' DL.const_mk ?a ?b; (case a => k_is); (case b => exact ⟨_, rfl⟩))
    (case n_texts => k_is)
    (case xeB => k_is)
    (case xeR => k_is)
    (case xe1 => k_is)
    (case xe2 => k_is)
    (case xin => k_exc)
    (case xga => k_is)
    (case xgh => k_is)
    (case xcl => k_is)
    (case xmb => k_is)
    (case xmo => k_is)
    (case xic => k_is)
    (case xk1 => kernel_rfl)
    (case xk2 => kernel_rfl)
    (case xk3 => kernel_rfl)
    (case xk4 => kernel_rfl)
    (case xk5 => kernel_rfl)
    (case xk6 => kernel_rfl)
    (case xem => kernel_rfl)
    (case n_costs => k_is)
    (case n_added => k_is)
#print axioms PySem.Challenge.cw_cheapread_k21_no_words_holds
