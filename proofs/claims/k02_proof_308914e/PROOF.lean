import PyProof.Rows.All
import Wide.All
import OpenK.AllK
import Wide.FinOn
import Lean
import PyProof.EqAt
import PyProof.EqKinds
import PyProof.TupleCall
import PySem.Challenge.RW_cheapread_k02_no_chains
set_option bootstrap.genMatcherCode false
set_option Elab.async false
set_option linter.all false
set_option maxRecDepth 100000
namespace L2
open PySem PySem.Spec PyProof.Rows
noncomputable abbrev Key := Sum Int Str
noncomputable def keyIs : Key → Value → Bool
  | .inl k, v => Value.isInt k v
  | .inr x, v => Value.isStrOf x v
noncomputable def keyH (w : World) : Key → Int
  | .inl k => hashInt k
  | .inr x => hashStr w x
theorem keyIs_shape : ∀ {k : Key} {v : Value}, keyIs k v = true → (∃ i t, k = Sum.inl i ∧ v = Value.int i t) ∨ (∃ x t, k = Sum.inr x ∧ v = Value.str x t)
  | .inl i, v, h => by
    obtain ⟨t, e⟩ := Value.isInt_shape (k := i) (v := v) h
    exact .inl ⟨i, t, rfl, e⟩
  | .inr x, v, h => by
    obtain ⟨t, e⟩ := Value.isStrOf_shape (x := x) (v := v) h
    exact .inr ⟨x, t, rfl, e⟩
theorem key_ll (a b : Int) : decide ((Sum.inl a : Key) = Sum.inl b) = (a == b) := by
  by_cases e : a = b
  · subst e; simp
  · have h : ¬ (Sum.inl a : Key) = Sum.inl b := fun q => e (Sum.inl.inj q)
    rw [decide_eq_false h]
    exact (beq_eq_false_iff_ne.mpr e).symm
theorem key_rr (a b : Str) : decide ((Sum.inr a : Key) = Sum.inr b) = decide (a = b) := by
  by_cases e : a = b
  · subst e; simp
  · have h : ¬ (Sum.inr a : Key) = Sum.inr b := fun q => e (Sum.inr.inj q)
    rw [decide_eq_false h, decide_eq_false e]
theorem key_lr (a : Int) (b : Str) : decide ((Sum.inl a : Key) = Sum.inr b) = false := decide_eq_false (fun q => nomatch q)
theorem key_rl (a : Str) (b : Int) : decide ((Sum.inr a : Key) = Sum.inl b) = false := decide_eq_false (fun q => nomatch q)
noncomputable def mixKind (prog : Program) (w : World) : PySem.KeyKind prog w Key where
  is := keyIs
  hash := keyH w
  inj := fun v a b ha hb => by
    rcases keyIs_shape ha with ⟨i, t, rfl, rfl⟩ | ⟨x, t, rfl, rfl⟩
    · rcases keyIs_shape hb with ⟨j, u, rfl, e⟩ | ⟨y, u, rfl, e⟩
      · injection e with e1 _; rw [e1]
      · exact nomatch e
    · rcases keyIs_shape hb with ⟨j, u, rfl, e⟩ | ⟨y, u, rfl, e⟩
      · exact nomatch e
      · injection e with e1 _; rw [e1]
  byValue := fun k v h => by
    rcases keyIs_shape h with ⟨i, t, rfl, rfl⟩ | ⟨x, t, rfl, rfl⟩ <;> rfl
  pyHash := fun hv h => by
    rcases keyIs_shape hv with ⟨i, t, rfl, rfl⟩ | ⟨x, t, rfl, rfl⟩
    · exact wpAny_pyHash_int h
    · exact wpAny_pyHash_str h
  eqBool := fun hu hv h => by
    rcases keyIs_shape hu with ⟨i, t, rfl, rfl⟩ | ⟨x, t, rfl, rfl⟩
    · rcases keyIs_shape hv with ⟨j, u, rfl, rfl⟩ | ⟨y, u, rfl, rfl⟩
      · rw [key_ll] at h; exact wpAny_eqBool_int h
      · rw [key_lr] at h; exact SeqAt.EqAt.int_str i t y u _ _ _ _ h
    · rcases keyIs_shape hv with ⟨j, u, rfl, rfl⟩ | ⟨y, u, rfl, rfl⟩
      · rw [key_rl] at h; exact SeqAt.EqAt.str_int x t j u _ _ _ _ h
      · rw [key_rr] at h; exact wpAny_eqBool_str h
  «strs» := fun k x t v h => by
    rcases keyIs_shape h with ⟨i, u, rfl, e⟩ | ⟨y, u, rfl, e⟩
    · exact nomatch e
    · injection e with e1 _
      subst e1
      cases v <;> rfl
end L2
namespace L2
open PySem PySem.Spec PyProof.Rows
inductive V where
  | non | bl (b : Bool) | int (i : Int) | str (x : Str) | byt (b : Array UInt8) | flt (b : UInt64) | ref (a : Addr) | ty (n : String)
  deriving DecidableEq
noncomputable def RelV : V → Value → Prop
  | .non, u => u = Value.none
  | .bl b, u => u = Value.bool b
  | .int i, u => ∃ t, u = Value.int i t
  | .str x, u => ∃ t, u = Value.str x t
  | .byt b, u => ∃ t, u = Value.bytes b t
  | .flt b, u => ∃ t, u = Value.float b t
  | .ref a, u => u = Value.ref a
  | .ty n, u => u = Value.type n
noncomputable abbrev Vals : List V → List Value → Prop := Paired RelV
theorem Vals.length {xs : List V} {us : List Value} (r : Vals xs us) : xs.length = us.length := Paired.length r
theorem Vals.get : ∀ {xs : List V} {us : List Value} {i : Nat} {x : V}, Vals xs us → xs[i]? = some x → ∃ u, us[i]? = some u ∧ RelV x u
  | _, _, _, _, .nil, e => by simp at e
  | _, _, 0, _, .cons r _, e => by simp at e; subst e; exact ⟨_, rfl, r⟩
  | _, _, i + 1, x, .cons _ t, e => by
    obtain ⟨u, h1, h2⟩ := Vals.get (i := i) (x := x) t (by simpa using e)
    exact ⟨u, by simpa using h1, h2⟩
theorem Vals.set {x : V} {u : Value} (r : RelV x u) : ∀ {xs : List V} {us : List Value} (i : Nat), Vals xs us → Vals (xs.set i x) (us.set i u)
  | _, _, _, .nil => .nil
  | _, _, 0, .cons _ t => .cons r t
  | _, _, i + 1, .cons q t => .cons q (Vals.set r i t)
theorem Vals.append : ∀ {xs ys : List V} {us ws : List Value}, Vals xs us → Vals ys ws → Vals (xs ++ ys) (us ++ ws)
  | _, _, _, _, .nil, s => s
  | _, _, _, _, .cons r t, s => .cons r (Vals.append t s)
theorem Vals.take : ∀ {xs : List V} {us : List Value} (n : Nat), Vals xs us → Vals (xs.take n) (us.take n)
  | _, _, 0, _ => .nil
  | _, _, _ + 1, .nil => .nil
  | _, _, n + 1, .cons r t => .cons r (Vals.take n t)
theorem Vals.drop : ∀ {xs : List V} {us : List Value} (n : Nat), Vals xs us → Vals (xs.drop n) (us.drop n)
  | _, _, 0, r => r
  | _, _, _ + 1, .nil => .nil
  | _, _, n + 1, .cons _ t => Vals.drop n t
noncomputable def RelO : Option V → Option Value → Prop
  | some v, some u => RelV v u
  | none, none => True
  | _, _ => False
noncomputable def KV {κ : Type} : List (κ × V) → List (κ × Value) → Prop := Paired fun (p : κ × V) (q : κ × Value) => p.1 = q.1 ∧ RelV p.2 q.2
noncomputable def kV : Key → V
  | .inl i => .int i
  | .inr x => .str x
inductive HO where
    | lst (xs : List V)
    | tup (xs : List V)
    | dK (kvs : List (Key × V)) | dT (kvs : List (List Key × V))
    | set (S : Int → Bool) (n : Nat)
    | ins (C dx : Addr) (fs : List (Str × V))
    | own (x : Addr)
    | xd (fs : List (Str × V))
    | met (f x : Addr)
    | rng (lo hi : Int)
    | frz (o : Obj) (u : HO)
    | tbl (ps : Array Value)
    | ext (φ : Heap → Prop)
noncomputable abbrev Hp := Addr → Option HO
noncomputable def upd (H : Hp) (a : Addr) (o : HO) : Hp := fun b => if b = a then some o else H b
theorem upd_same {H : Hp} {a : Addr} {o : HO} : upd H a o a = some o := by unfold upd; rw [if_pos rfl]
theorem upd_ne {H : Hp} {a b : Addr} {o : HO} (h : b ≠ a) : upd H a o b = H b := by unfold upd; rw [if_neg h]
theorem ne_of_none {H : Hp} {a b : Addr} {o : HO} (h : H a = some o) (h' : H b = none) : a ≠ b := by
  intro e; subst e; rw [h] at h'; cases h'
section
variable (P : Program) (w : World)
noncomputable def ObjOk (H : Hp) (h : Heap) (a : Addr) : HO → Prop
  | .lst xs => xs.length ≤ sizeLine ∧ ∃ (its : List Value) (n : Nat), Vals xs its ∧ h.get? a = some { cls := .type "list", data := .seq its.toArray n }
  | .tup xs => xs.length ≤ sizeLine ∧ ∃ its : List Value, Vals xs its ∧ IsTup h a its.toArray
  | .dK kvs => kvs.length ≤ sizeLine ∧ (a == sysModules) = false ∧ ∃ vs, KV kvs vs ∧ h.DictOf (mixKind P w) a vs
  | .dT kvs => kvs.length ≤ sizeLine ∧ (a == sysModules) = false ∧ ∃ xs : List (List Key × Addr × Value),
      Paired (fun (p : List Key × V) (q : List Key × Addr × Value) => p.1 = q.1 ∧ H q.2.1 = some (.tup (p.1.map kV)) ∧ RelV p.2 q.2.2) kvs xs ∧
      ∃ o es ep, h.get? a = some o ∧ o.ExactDict ∧ o.data = .dict es ep ∧ es.toList = xs.map (entryOfKey (tupleKind (mixKind P w))) ∧ (xs.map (·.1)).Nodup
  | .set S n => h.SetOf (intKind P w) a S n
  | .ins C dx fs => H dx = some (.own a) ∧ fs.length ≤ 1000 ∧ dx ≠ a ∧ h.get? a = some (PySem.W.instObj C dx) ∧
      ∃ mA, h.Ns1 dx mA ∧ (∀ f, RelO (fs.lookup f) (mA f)) ∧ PySem.Within mA (fs.map (·.1))
  | .own _ => ∃ o, h.get? a = some o
  | .xd fs => ∃ mA, h.Ns1 a mA ∧ ∀ f, RelO (fs.lookup f) (mA f)
  | .rng lo hi => ∃ t u v, h.get? a = some { cls := .type "range", data := .fields #[.int lo t, .int hi u, .int 1 v] }
  | .frz o u => h.get? a = some o ∧ ObjOk H h a u
  | .tbl ps => h.get? a = some { cls := .none, data := .fields ps }
  | .met f x => h.get? a = some (PySem.W.methodObj (.ref f) (.ref x))
  | .ext φ => φ h ∧ (∃ o, h.get? a = some o) ∧ ∀ h1 h2 : Heap, φ h1 → (∀ o, h1.get? a = some o → h2.get? a = some o) → φ h2
noncomputable def HOk (H : Hp) (h : Heap) : Prop := ∀ a o, H a = some o → ObjOk P w H h a o
end
section
variable {P : Program} {w : World} {H H' : Hp} {h h' : Heap} {a : Addr} {o : HO}
theorem ObjOk.lt (x : ObjOk P w H h a o) : a < h.objs.size := by
  cases o with
  | lst xs => obtain ⟨_, _, _, _, e⟩ := x; exact Heap.lt_size e
  | tup xs => obtain ⟨_, _, _, p⟩ := x; exact p.lt
  | dK kvs => obtain ⟨_, _, _, _, o, _, _, e, _⟩ := x; exact Heap.lt_size e
  | dT kvs => obtain ⟨_, _, _, _, o, _, _, e, _⟩ := x; exact Heap.lt_size e
  | set S n => obtain ⟨o, _, _, _, e, _⟩ := x; exact Heap.lt_size e
  | ins C dx fs => obtain ⟨_, _, _, e, _⟩ := x; exact Heap.lt_size e
  | own y => obtain ⟨_, e⟩ := x; exact Heap.lt_size e
  | xd fs => obtain ⟨_, ⟨_, _, _, e, _⟩, _⟩ := x; exact Heap.lt_size e
  | rng lo hi => obtain ⟨_, _, _, e⟩ := x; exact Heap.lt_size e
  | frz ob u => obtain ⟨e, _⟩ := x; exact Heap.lt_size e
  | tbl ps => exact Heap.lt_size (show h.get? a = some _ from x)
  | met f y => exact Heap.lt_size (show h.get? a = some _ from x)
  | ext φ => obtain ⟨_, ⟨_, e⟩, _⟩ := x; exact Heap.lt_size e
theorem Paired.mapP {α β : Type} {F G : α → β → Prop} : ∀ {l₁ : List α} {l₂ : List β}, Paired F l₁ l₂ → (∀ a b, F a b → G a b) → Paired G l₁ l₂
  | _, _, .nil, _ => .nil
  | _, _, .cons r t, f => .cons (f _ _ r) (Paired.mapP t f)
theorem ObjOk.stay (x : ObjOk P w H h a o) (k : ∀ b u, (b = a ∨ H b = some (.own a)) → h.get? b = some u → h'.get? b = some u)
    (ho : ∀ b, H b = some (.own a) → H' b = some (.own a)) (ht : ∀ b xs, H b = some (.tup xs) → H' b = some (.tup xs)) : ObjOk P w H' h' a o := by
  induction o with
  | lst xs => obtain ⟨z, its, n, r, e⟩ := x; exact ⟨z, its, n, r, k _ _ (.inl rfl) e⟩
  | tup xs => obtain ⟨z, its, r, ob, e, c⟩ := x; exact ⟨z, its, r, ob, k _ _ (.inl rfl) e, c⟩
  | dK kvs => obtain ⟨z, y, vs, r, ob, es, ep, e, c⟩ := x; exact ⟨z, y, vs, r, ob, es, ep, k _ _ (.inl rfl) e, c⟩
  | dT kvs =>
    obtain ⟨z, y, xs, r, ob, es, ep, e, c⟩ := x
    exact ⟨z, y, xs, Paired.mapP r fun p q z => ⟨z.1, ht _ _ z.2.1, z.2.2⟩, ob, es, ep, k _ _ (.inl rfl) e, c⟩
  | set S n => obtain ⟨ob, es, ep, t, e, c⟩ := x; exact ⟨ob, es, ep, t, k _ _ (.inl rfl) e, c⟩
  | ins C dx fs =>
    obtain ⟨d, z, ne, e, mA, ⟨od, es, ep, e2, c⟩, r⟩ := x
    exact ⟨ho _ d, z, ne, k _ _ (.inl rfl) e, mA, ⟨od, es, ep, k _ _ (.inr d) e2, c⟩, r⟩
  | own y => obtain ⟨ob, e⟩ := x; exact ⟨ob, k _ _ (.inl rfl) e⟩
  | xd fs => obtain ⟨mA, ⟨od, es, ep, e, c⟩, r⟩ := x; exact ⟨mA, ⟨od, es, ep, k _ _ (.inl rfl) e, c⟩, r⟩
  | rng lo hi => obtain ⟨t, u, v, e⟩ := x; exact ⟨t, u, v, k _ _ (.inl rfl) e⟩
  | frz ob u ih => obtain ⟨e, q⟩ := x; exact ⟨k _ _ (.inl rfl) e, ih q⟩
  | tbl ps =>
    have e : h.get? a = some { cls := .none, data := .fields ps } := x
    show h'.get? a = some { cls := .none, data := .fields ps }
    exact k a _ (.inl rfl) e
  | met f y =>
    have e : h.get? a = some (PySem.W.methodObj (.ref f) (.ref y)) := x
    show h'.get? a = some (PySem.W.methodObj (.ref f) (.ref y))
    exact k a _ (.inl rfl) e
  | ext φ => obtain ⟨p, ⟨o, e⟩, st⟩ := x; exact ⟨st _ _ p fun o q => k _ _ (.inl rfl) q, ⟨o, k _ _ (.inl rfl) e⟩, st⟩
theorem HOk.lt (x : HOk P w H h) (e : H a = some o) : a < h.objs.size := (x a o e).lt
theorem HOk.fresh (x : HOk P w H h) (e : h.objs.size ≤ a) : H a = none := by
  cases q : H a with
  | none => rfl
  | some u => exact absurd (Nat.lt_of_lt_of_le (x.lt q) e) (Nat.lt_irrefl _)
theorem HOk.kept (x : HOk P w H h) (k : ∀ b u, h.get? b = some u → h'.get? b = some u) : HOk P w H h' := fun a o e =>
  (x a o e).stay (fun b u _ q => k b u q) (fun _ q => q) fun _ _ q => q
theorem HOk.laid (x : HOk P w H h) (k : ∀ b u, h.get? b = some u → h'.get? b = some u) (hp : h.objs.size ≤ a) (new : ObjOk P w (upd H a o) h' a o) : HOk P w (upd H a o) h' := fun b u e => by
  have hn := x.fresh hp
  by_cases hb : b = a
  · subst hb; rw [upd_same] at e; cases e; exact new
  · rw [upd_ne hb] at e
    exact (x b u e).stay (fun c v _ q => k c v q) (fun c q => by rw [upd_ne (ne_of_none q hn)]; exact q) fun c xs q => by rw [upd_ne (ne_of_none q hn)]; exact q
end
noncomputable def Rd (H : Hp) (a : Addr) (u : HO) : Prop := H a = some u ∨ ∃ o, H a = some (.frz o u)
theorem Rd.ok {P : Program} {w : World} {H : Hp} {h : Heap} {a : Addr} {u : HO} (r : Rd H a u) (x : HOk P w H h) : ObjOk P w H h a u := by
  rcases r with r | ⟨o, r⟩
  · exact x a u r
  · obtain ⟨_, q⟩ := x a _ r
    exact q
noncomputable def Mut : Option HO → Prop
  | some (.lst _) => True
  | some (.dK _) => True
  | some (.dT _) => True
  | some (.set _ _) => True
  | some (.ins _ _ _) => True
  | some (.ext _) => True
  | _ => False
section
variable {P : Program} {w : World} {H : Hp} {h h' : Heap} {x e : Addr} {o' : HO}
theorem HOk.write (ok : HOk P w H h) (mu : Mut (H x)) (he : e = x ∨ H e = some (.own x)) (k : ∀ b u, b ≠ e → h.get? b = some u → h'.get? b = some u) (heo : ∃ u, h'.get? e = some u)
    (new : ObjOk P w (upd H x o') h' x o') : HOk P w (upd H x o') h' := fun b u q => by
  have nown : ∀ c y, H c = some (.own y) → c ≠ x := fun c y r z => by subst z; rw [r] at mu; exact mu
  have ntup : ∀ c xs, H c = some (.tup xs) → c ≠ x := fun c xs r z => by subst z; rw [r] at mu; exact mu
  by_cases hb : b = x
  · subst hb; rw [upd_same] at q; cases q; exact new
  · rw [upd_ne hb] at q
    by_cases hbe : b = e
    · have q' : H b = some (.own x) := by
        rcases he with z | z
        · exact absurd (hbe.trans z) hb
        · rw [hbe]; exact z
      rw [q] at q'; cases q'
      obtain ⟨v, hv⟩ := heo
      exact ⟨v, by rw [hbe]; exact hv⟩
    · refine (ok b u q).stay (fun c v hc r => k c v ?_ r) (fun c r => by rw [upd_ne (nown c b r)]; exact r) fun c xs r => by rw [upd_ne (ntup c xs r)]; exact r
      rcases hc with rfl | hc
      · exact hbe
      · rintro rfl
        rcases he with z | z
        · exact nown c b hc z
        · rw [hc] at z; cases z; exact hb rfl
end
structure Un (fs ex : List Addr) (H H' : Hp) (h h' : Heap) : Prop where
  keep : ∀ b o, h.get? b = some o → H b = none → b ∉ fs → b ∉ ex → h'.get? b = some o
  slot : ∀ b o, h.get? b = some o → H b = none → b ∈ fs → b ∉ ex → ∃ sl, h'.get? b = some { o with slots := sl }
  free : ∀ b o, h.get? b = some o → H b = none → b ∉ ex → H' b = none
  there : ∀ b o, h.get? b = some o → b ∉ ex → ∃ o', h'.get? b = some o'
  tups : ∀ b xs, H b = some (.tup xs) → H' b = some (.tup xs)
  frzs : ∀ b o u, H b = some (.frz o u) → H' b = some (.frz o u)
  tbls : ∀ b ps, H b = some (.tbl ps) → ∃ more, H' b = some (.tbl (ps ++ more))
section
variable {fs fs' ex ex' : List Addr} {H H1 H2 : Hp} {h h1 h2 h' : Heap} {a x e : Addr} {o : HO}
theorem Un.any (u : Un fs ex H H1 h h1) {b : Addr} {ob : Obj} (q : h.get? b = some ob) (n : H b = none) (hx : b ∉ ex) : ∃ sl, h1.get? b = some { ob with slots := sl } := by
  by_cases hb : b ∈ fs
  · exact u.slot b ob q n hb hx
  · exact ⟨ob.slots, u.keep b ob q n hb hx⟩
theorem Un.kept (k : ∀ b u, h.get? b = some u → h'.get? b = some u) : Un fs ex H H h h' :=
  ⟨fun b ob q _ _ _ => k b ob q, fun b ob q _ _ _ => ⟨ob.slots, k b ob q⟩, fun _ _ _ n _ => n, fun b ob q _ => ⟨ob, k b ob q⟩, fun _ _ q => q, fun _ _ _ q => q, fun _ ps q => ⟨#[], by rw [q]; simp⟩⟩
theorem Un.refl : Un fs ex H H h h := Un.kept fun _ _ q => q
theorem Un.laid (k : ∀ b u, h.get? b = some u → h'.get? b = some u) (hp : h.objs.size ≤ a) (hn : H a = none) : Un fs ex H (upd H a o) h h' where
  keep := fun b u q _ _ _ => k b u q
  slot := fun b u q _ _ _ => ⟨u.slots, k b u q⟩
  free := fun b u q n _ => by rw [upd_ne (Nat.ne_of_lt (Nat.lt_of_lt_of_le (Heap.lt_size q) hp))]; exact n
  there := fun b u q _ => ⟨u, k b u q⟩
  tups := fun b xs q => by rw [upd_ne (ne_of_none q hn)]; exact q
  frzs := fun b u xs q => by rw [upd_ne (ne_of_none q hn)]; exact q
  tbls := fun b ps q => ⟨#[], by rw [upd_ne (ne_of_none q hn), q]; simp⟩
theorem Un.write (mu : Mut (H x)) (he : e = x ∨ H e = some (.own x)) (k : ∀ b u, b ≠ e → h.get? b = some u → h'.get? b = some u) (heo : ∃ u, h'.get? e = some u) : Un fs ex H (upd H x o) h h' := by
  have hx : ∀ b, H b = none → b ≠ x := fun b n z => by subst z; rw [n] at mu; exact mu
  have hb : ∀ b, H b = none → b ≠ e := fun b n z => by
    subst z
    rcases he with r | r
    · exact hx b n r
    · rw [n] at r; cases r
  have hm : ∀ b u, H b = some u → ¬ Mut (some u) → b ≠ x := fun b u q nm z => by subst z; rw [q] at mu; exact nm mu
  refine ⟨fun b u q n _ _ => k b u (hb b n) q, fun b u q n _ _ => ⟨u.slots, k b u (hb b n) q⟩, fun b u q n _ => by rw [upd_ne (hx b n)]; exact n, fun b u q _ => ?_,
    fun b xs q => by rw [upd_ne (hm b _ q fun z => z)]; exact q, fun b u xs q => by rw [upd_ne (hm b _ q fun z => z)]; exact q, fun b ps q => ⟨#[], by rw [upd_ne (hm b _ q fun z => z), q]; simp⟩⟩
  by_cases hbe : b = e
  · subst hbe; exact heo
  · exact ⟨u, k b u hbe q⟩
end
noncomputable def trk (h : Heap) (H : Hp) : List Addr := (List.range h.objs.size).filter fun a => (H a).isSome
noncomputable def hidT (h : Heap) (H : Hp) : Heap := PySem.W.hideAll h (trk h H)
theorem hidT_size (h : Heap) (H : Hp) : (hidT h H).objs.size = h.objs.size := PySem.W.hideAll_size _ _
theorem hidT_get {h : Heap} {H : Hp} {b : Addr} {o : Obj} (e : h.get? b = some o) (n : H b = none) : (hidT h H).get? b = some o :=
  PySem.W.hideAll_get _ e fun hm => by
    have q : (H b).isSome = true := (List.mem_filter.mp hm).2
    rw [n] at q; simp at q
theorem of_hidT {h : Heap} {H : Hp} {b : Addr} {o : Obj} (e : (hidT h H).get? b = some o) : h.get? b = some o ∧ H b = none := by
  have e' : h.get? b = some o := PySem.W.of_hideAll (trk h H) e
  refine ⟨e', ?_⟩
  cases q : H b with
  | none => rfl
  | some x =>
    have hm : b ∈ trk h H := List.mem_filter.mpr ⟨List.mem_range.mpr (Heap.lt_size e'), by simp [q]⟩
    have z : (hidT h H).get? b = none := PySem.W.hideAll_none (trk h H) hm
    rw [z] at e; cases e
end L2
namespace L2
open PySem PySem.Spec PyProof.Rows
structure Mod (K : PySem.W.Frag) (mg : Str → Option Value) (base : Heap) : Prop where
  kin : K.In base
  glob : base.Ns mainGlobals mg
  blt : ∃ mb, base.Ns builtinsNs mb ∧ ∀ x : Str, x ≠ "__name__" → mb x = bootBuiltins x
  nolimit : base.NoLimit
structure Cx where
  prog : Program
  w : World
  K : PySem.W.Frag
  mg : Str → Option Value
  base : Heap
  A : Around
  N : List Str
  s₀ : Shared
  H₀ : Hp
  env : Env
  outer : List Env
  stack : List Env
  ex : List Addr
  fn : Str → Bool
  calm : Bool
  pn : List (Addr × Obj)
  xe : Value → Shared → Prop
noncomputable def frs (l : List Env) : List Addr := l.filterMap (·.frame)
noncomputable abbrev Cx.fs (X : Cx) : List Addr := frs X.outer
noncomputable def Vis (sc : Scope) (x : Str) : Prop := sc.names.lookup x = some .local ∨ sc.names.lookup x = some .cell ∨ sc.names.lookup x = some .free
noncomputable def Loc (sc : Scope) (x : Str) : Prop := sc.names.lookup x = some .local ∨ sc.names.lookup x = some .cell
noncomputable def Look (env : Env) (h : Heap) (m : Str → Option Value) (x : Str) (u : Value) : Prop :=
  (env.kindOf x = some .local ∧ m x = some u) ∨ ((env.kindOf x = some .cell ∨ env.kindOf x = some .free) ∧ ∃ c, env.cells.lookup x = some c ∧ h.IsCell c (some u))
structure Cx.Ok (X : Cx) : Prop where
  mod : Mod X.K X.mg X.base
  kind : X.env.scope.kind = .function
  glob : X.env.globals = mainGlobals
  blt : X.env.builtins = builtinsNs
  above : X.s₀.heap.objs.size ≤ X.env.locals
  inj : ∀ x y c, X.env.cells.lookup x = some c → X.env.cells.lookup y = some c → x = y
  has : ∀ x, (X.env.kindOf x = some .cell ∨ X.env.kindOf x = some .free) → ∃ c, X.env.cells.lookup x = some c
  cab : ∀ x c, X.fn x = true → X.env.cells.lookup x = some c → X.s₀.heap.objs.size ≤ c
  hd : X.calm = true → X.A.handled = none
  frames : X.A.frames = some X.stack
  stk : X.stack = X.outer ∨ (X.stack = X.env :: X.outer ∧ X.env.frame = some X.env.locals)
  exf : ∀ b ∈ X.ex, b ≠ X.env.locals ∧ ∀ x c, X.env.cells.lookup x = some c → c ≠ b
  bs : ∀ b o, X.base.get? b = some o → X.s₀.heap.get? b = some o ∧ X.H₀ b = none
  bsz : X.base.objs.size ≤ X.s₀.heap.objs.size
  noex : ∀ b o, X.base.get? b = some o → b ∉ X.ex
  exfs : ∀ b ∈ X.ex, b ∉ X.fs
  funs : X.s₀.heap.FunFrames X.base X.outer
  frf : ∀ b ∈ X.fs, X.H₀ b = none
structure Inv (X : Cx) (pins : List (Addr × Obj)) (σ : List (Option V)) (H : Hp) (s : Shared) : Prop where
  ok : X.Ok
  os : s.os = X.s₀.os
  bare : AllBare s.gens
  base : Un X.fs X.ex X.H₀ H X.s₀.heap s.heap
  loc : ∃ m, s.heap.Ns X.env.locals m ∧ ∀ (i : Nat) (x : Str) (v : V), X.N[i]? = some x → σ[i]? = some (some v) → Vis X.env.scope x → ∃ u, RelV v u ∧ Look X.env s.heap m x u
  cell : ∀ x c, X.env.cells.lookup x = some c → ∃ v, s.heap.IsCell c v
  free : H X.env.locals = none
  freeC : ∀ x c, X.env.cells.lookup x = some c → H c = none
  pin : ∀ p ∈ X.pn ++ pins, s.heap.get? p.1 = some p.2 ∧ H p.1 = none ∧ p.1 ≠ X.env.locals ∧ p.1 ∉ X.fs ∧ ∀ v, p.2.data ≠ .cell v
  hok : HOk X.prog X.w H s.heap
  len : σ.length = X.N.length
section
variable {X : Cx} {pins : List (Addr × Obj)} {σ : List (Option V)} {H H' : Hp} {s : Shared} {h' : Heap}
theorem Cx.Ok.nofr (ok : X.Ok) {b : Addr} {o : Obj} (e : X.base.get? b = some o) : b ∉ X.fs := fun hb => by
  have := (ok.funs.mem hb).1
  rw [e] at this; cases this
theorem Inv.bs (I : Inv X pins σ H s) : ∀ b o, X.base.get? b = some o → s.heap.get? b = some o ∧ H b = none := fun b o e =>
  ⟨I.base.keep b o (I.ok.bs b o e).1 (I.ok.bs b o e).2 (I.ok.nofr e) (I.ok.noex b o e), I.base.free b o (I.ok.bs b o e).1 (I.ok.bs b o e).2 (I.ok.noex b o e)⟩
theorem Inv.bk (I : Inv X pins σ H s) : ∀ b o, X.base.get? b = some o → s.heap.get? b = some o := fun b o e => (I.bs b o e).1
theorem Inv.mod (I : Inv X pins σ H s) : Mod X.K X.mg X.base := I.ok.mod
theorem Inv.kIn (I : Inv X pins σ H s) : X.K.In s.heap := I.ok.mod.kin.keeps I.bk
theorem Inv.lt (I : Inv X pins σ H s) : X.env.locals < s.heap.objs.size := let ⟨_, hn, _⟩ := I.loc; hn.lt
theorem Inv.sz (I : Inv X pins σ H s) : X.s₀.heap.objs.size ≤ s.heap.objs.size := Nat.le_trans I.ok.above (Nat.le_of_lt I.lt)
theorem Inv.nofs (I : Inv X pins σ H s) {a : Addr} (h : s.heap.objs.size ≤ a) : a ∉ X.fs := fun hb => by
  obtain ⟨_, o, ho, _⟩ := I.ok.funs.mem hb
  exact absurd (Nat.lt_of_lt_of_le (Heap.lt_size ho) (Nat.le_trans I.sz h)) (Nat.lt_irrefl _)
theorem Inv.cne (I : Inv X pins σ H s) : ∀ x c, X.env.cells.lookup x = some c → c ≠ X.env.locals := fun x c e z => by
  obtain ⟨v, o, ho, hd⟩ := I.cell x c e
  obtain ⟨m, ⟨o', es, ep, ho', hd', _⟩, _⟩ := I.loc
  rw [z, ho'] at ho; cases ho; rw [hd'] at hd; cases hd
theorem Inv.funs (I : Inv X pins σ H s) : s.heap.FunFrames X.base X.outer := by
  have all : ∀ (l : List Env), (∀ b ∈ frs l, b ∈ X.fs) → X.s₀.heap.FunFrames X.base l → s.heap.FunFrames X.base l := by
    intro l
    induction l with
    | nil => intro _ _; trivial
    | cons env r ih =>
      intro hs hl
      obtain ⟨hk, ⟨L, o, hf, hn, ho, hd⟩, hr⟩ := hl
      have hL : L ∈ X.fs := hs L (by unfold frs; rw [List.filterMap_cons, hf]; exact List.mem_cons_self)
      obtain ⟨sl, e⟩ := I.base.slot L o ho (I.ok.frf L hL) hL fun z => I.ok.exfs L z hL
      exact ⟨hk, ⟨L, _, hf, hn, e, hd⟩, ih (fun b hb => hs b (by unfold frs; rw [List.filterMap_cons, hf]; exact List.mem_cons_of_mem _ hb)) hr⟩
  exact all X.outer (fun _ hb => hb) I.ok.funs
theorem Inv.stack (I : Inv X pins σ H s) : s.heap.FunFrames X.base X.stack := by
  rcases I.ok.stk with e | ⟨e, hf⟩
  · rw [e]; exact I.funs
  · rw [e]
    obtain ⟨m, hn, _⟩ := I.loc
    refine .cons (by rw [I.ok.kind]; decide) hf hn ?_ I.funs
    exact Heap.get?_none_of_le (Nat.le_trans I.ok.bsz I.ok.above)
theorem Inv.stkSub (I : Inv X pins σ H s) : ∀ b ∈ frs X.stack, b ∈ X.env.locals :: X.fs := fun b hb => by
  rcases I.ok.stk with e | ⟨e, hf⟩
  · rw [e] at hb; exact List.mem_cons_of_mem _ hb
  · rw [e] at hb
    unfold frs at hb
    rw [List.filterMap_cons, hf] at hb
    exact hb
theorem Inv.stkFree (I : Inv X pins σ H s) : ∀ b ∈ frs X.stack, H b = none := fun b hb => by
  rcases List.mem_cons.mp (I.stkSub b hb) with e | hb
  · rw [e]; exact I.free
  · obtain ⟨_, o, ho, _⟩ := I.ok.funs.mem hb
    exact I.base.free b o ho (I.ok.frf b hb) fun z => I.ok.exfs b z hb
theorem Inv.step {g' : Array GenState} {t' : Nat} {d' : Drawn} {ch : List Addr} (I : Inv X pins σ H s)
    (hch : ∀ b ∈ ch, (b ∈ X.ex ∨ X.s₀.heap.objs.size ≤ b) ∧ b ≠ X.env.locals ∧ (∀ x c, X.env.cells.lookup x = some c → c ≠ b) ∧ ∀ p ∈ X.pn ++ pins, p.1 ≠ b)
    (keep : ∀ b o, b ≠ X.env.locals → b ∉ X.fs → b ∉ ch → s.heap.get? b = some o → H b = none → h'.get? b = some o)
    (slot : ∀ b o, b ≠ X.env.locals → b ∈ X.fs → b ∉ ch → s.heap.get? b = some o → H b = none → ∃ sl, h'.get? b = some { o with slots := sl }) (free : ∀ b o, b ∉ ch → s.heap.get? b = some o → H b = none → H' b = none)
    (there : ∀ b o, b ∉ ch → s.heap.get? b = some o → ∃ o', h'.get? b = some o')
    (tups : ∀ b xs, H b = some (.tup xs) → H' b = some (.tup xs)) (frzs : ∀ b o u, H b = some (.frz o u) → H' b = some (.frz o u)) (tbls : ∀ b ps, H b = some (.tbl ps) → ∃ more, H' b = some (.tbl (ps ++ more)))
    (ns : ∀ m, s.heap.Ns X.env.locals m → h'.Ns X.env.locals m) (hok : HOk X.prog X.w H' h') (hg : AllBare g') :
    Inv X pins σ H' { s with heap := h', gens := g', drawn := d', toks := t' } := by
  have neL : ∀ b o, X.s₀.heap.get? b = some o → b ≠ X.env.locals := fun b o e => Nat.ne_of_lt (Nat.lt_of_lt_of_le (Heap.lt_size e) I.ok.above)
  have neC : ∀ b o, X.s₀.heap.get? b = some o → b ∉ X.ex → b ∉ ch := fun b o e hx hb => by
    rcases (hch b hb).1 with z | z
    · exact hx z
    · exact absurd (Nat.lt_of_lt_of_le (Heap.lt_size e) z) (Nat.lt_irrefl _)
  have cellK : ∀ x c, X.env.cells.lookup x = some c → ∀ v, s.heap.IsCell c v → h'.IsCell c v := fun x c e v ⟨o, ho, hd⟩ => by
    have nch : c ∉ ch := fun z => (hch c z).2.2.1 x c e rfl
    by_cases hc : c ∈ X.fs
    · obtain ⟨sl, q⟩ := slot c o (I.cne x c e) hc nch ho (I.freeC x c e)
      exact ⟨_, q, hd⟩
    · exact ⟨o, keep c o (I.cne x c e) hc nch ho (I.freeC x c e), hd⟩
  refine ⟨I.ok, I.os, hg, ⟨fun b o e n hb hx => ?_, fun b o e n hb hx => ?_, fun b o e n hx => ?_, fun b o e hx => ?_, fun b xs e => tups b xs (I.base.tups b xs e), fun b o xs e => frzs b o xs (I.base.frzs b o xs e), fun b ps e => ?_⟩, ?_, fun x c e => ?_, ?_, fun x c e => ?_, fun p hp => ?_, hok, I.len⟩
  · exact keep b o (neL b o e) hb (neC b o e hx) (I.base.keep b o e n hb hx) (I.base.free b o e n hx)
  · obtain ⟨sl, e1⟩ := I.base.slot b o e n hb hx
    obtain ⟨sl', e2⟩ := slot b _ (neL b o e) hb (neC b o e hx) e1 (I.base.free b o e n hx)
    exact ⟨sl', e2⟩
  · obtain ⟨o', e1⟩ := I.base.there b o e hx
    exact free b o' (neC b o e hx) e1 (I.base.free b o e n hx)
  · obtain ⟨o', e1⟩ := I.base.there b o e hx
    exact there b o' (neC b o e hx) e1
  · obtain ⟨m1, e1⟩ := I.base.tbls b ps e
    obtain ⟨m2, e2⟩ := tbls b _ e1
    exact ⟨m1 ++ m2, by rw [e2, Array.append_assoc]⟩
  · obtain ⟨m, hn, hl⟩ := I.loc
    refine ⟨m, ns m hn, fun i x v e1 e2 e3 => ?_⟩
    obtain ⟨u, r, l⟩ := hl i x v e1 e2 e3
    refine ⟨u, r, ?_⟩
    rcases l with l | ⟨k, c, e, z⟩
    · exact .inl l
    · exact .inr ⟨k, c, e, cellK x c e _ z⟩
  · obtain ⟨v, z⟩ := I.cell x c e
    exact ⟨v, cellK x c e v z⟩
  · obtain ⟨m, ⟨o, _, _, ho, _⟩, _⟩ := I.loc
    exact free _ o (fun z => (hch _ z).2.1 rfl) ho I.free
  · obtain ⟨v, o, ho, hd⟩ := I.cell x c e
    exact free c o (fun z => (hch c z).2.2.1 x c e rfl) ho (I.freeC x c e)
  · obtain ⟨e, n, ne, nf, d⟩ := I.pin p hp
    have nch : p.1 ∉ ch := fun z => (hch p.1 z).2.2.2 p hp rfl
    exact ⟨keep p.1 p.2 ne nf nch e n, free p.1 p.2 nch e n, ne, nf, d⟩
theorem Inv.un {t' : Nat} (I : Inv X pins σ H s) (u : Un X.fs [] H H' s.heap h') (hok : HOk X.prog X.w H' h') : Inv X pins σ H' { s with heap := h', toks := t' } := by
  obtain ⟨m, ⟨o, es, ep, ho, r⟩, _⟩ := id I.loc
  obtain ⟨sl, hL⟩ := u.any ho I.free (by simp)
  exact I.step (g' := s.gens) (d' := s.drawn) (ch := []) (fun _ z => nomatch z) (fun b o _ hb _ e n => u.keep b o e n hb (by simp)) (fun b o _ hb _ e n => u.slot b o e n hb (by simp)) (fun b o _ e n => u.free b o e n (by simp)) (fun b o _ e => u.there b o e (by simp)) u.tups u.frzs u.tbls (fun m' hm => by
    obtain ⟨o', es', ep', ho', r'⟩ := hm
    rw [ho] at ho'; cases ho'
    exact ⟨_, es', ep', hL, r'⟩) hok I.bare
theorem Inv.call {g' : Array GenState} {t' : Nat} {d' : Drawn} {ch : List Addr} (I : Inv X pins σ H s) (u : Un (frs X.stack) ch H H' s.heap h') (hok : HOk X.prog X.w H' h') (hg : AllBare g')
    (hch : ∀ b ∈ ch, (b ∈ X.ex ∨ X.s₀.heap.objs.size ≤ b) ∧ b ≠ X.env.locals ∧ (∀ x c, X.env.cells.lookup x = some c → c ≠ b) ∧ ∀ p ∈ X.pn ++ pins, p.1 ≠ b) :
    Inv X pins σ H' { s with heap := h', gens := g', drawn := d', toks := t' } := by
  obtain ⟨m, ⟨o, es, ep, ho, r⟩, _⟩ := id I.loc
  obtain ⟨sl, hL⟩ := u.any ho I.free fun z => (hch _ z).2.1 rfl
  exact I.step (ch := ch) hch (fun b o hL hb hc e n => u.keep b o e n (fun z => (List.mem_cons.mp (I.stkSub b z)).elim hL hb) hc) (fun b o _ _ hc e n => u.any e n hc) (fun b o hc e n => u.free b o e n hc) (fun b o hc e => u.there b o e hc) u.tups u.frzs u.tbls (fun m' hm => by
    obtain ⟨o', es', ep', ho', r'⟩ := hm
    rw [ho] at ho'; cases ho'
    exact ⟨_, es', ep', hL, r'⟩) hok hg
theorem Inv.turned {t' : Nat} {it : Addr} (I : Inv X pins σ H s) (k : ∀ b o, b ≠ it → s.heap.get? b = some o → h'.get? b = some o) (hn : H it = none) (hL : it ≠ X.env.locals)
    (h1 : it ∈ X.ex ∨ X.s₀.heap.objs.size ≤ it) (h2 : ∀ x c, X.env.cells.lookup x = some c → c ≠ it) (h3 : ∀ p ∈ X.pn ++ pins, p.1 ≠ it) : Inv X pins σ H { s with heap := h', toks := t' } := by
  have nit : ∀ b u, H b = some u → b ≠ it := fun b u e z => by rw [z, hn] at e; cases e
  refine I.step (g' := s.gens) (d' := s.drawn) (ch := [it]) (fun b hb => ?_) (fun b o _ _ hc e _ => k b o (fun z => hc (by simp [z])) e) (fun b o _ _ hc e _ => ⟨o.slots, k b o (fun z => hc (by simp [z])) e⟩) (fun _ _ _ _ n => n)
    (fun b o hc e => ⟨o, k b o (fun z => hc (by simp [z])) e⟩) (fun _ _ e => e) (fun _ _ _ e => e) (fun b ps e => ⟨#[], by rw [e]; simp⟩) (fun m hm => ?_) (fun b u e => ?_) I.bare
  · have e : b = it := by simpa using hb
    subst e
    exact ⟨h1, hL, h2, h3⟩
  · obtain ⟨o, es, ep, ho, r⟩ := hm
    exact ⟨o, es, ep, k _ o (Ne.symm hL) ho, r⟩
  · refine (I.hok b u e).stay (fun c v hc q => k c v ?_ q) (fun _ q => q) fun _ _ q => q
    rcases hc with z | z
    · rw [z]; exact nit b u e
    · exact nit c _ z
theorem Inv.tok (I : Inv X pins σ H s) (t : Nat) : Inv X pins σ H { s with toks := t } := I.un (h' := s.heap) (t' := t) Un.refl I.hok
theorem Inv.kept {t' : Nat} (I : Inv X pins σ H s) (k : ∀ b u, s.heap.get? b = some u → h'.get? b = some u) : Inv X pins σ H { s with heap := h', toks := t' } := I.un (Un.kept k) (I.hok.kept k)
theorem Inv.laid {a : Addr} {o : HO} {t' : Nat} (I : Inv X pins σ H s) (k : ∀ b u, s.heap.get? b = some u → h'.get? b = some u) (hp : s.heap.objs.size ≤ a) (new : ObjOk X.prog X.w (upd H a o) h' a o) :
    Inv X pins σ (upd H a o) { s with heap := h', toks := t' } := I.un (Un.laid k hp (I.hok.fresh hp)) (I.hok.laid k hp new)
theorem Inv.write {x e : Addr} {o : HO} {t' : Nat} (I : Inv X pins σ H s) (mu : Mut (H x)) (he : e = x ∨ H e = some (.own x)) (k : ∀ b u, b ≠ e → s.heap.get? b = some u → h'.get? b = some u) (heo : ∃ u, h'.get? e = some u)
    (new : ObjOk X.prog X.w (upd H x o) h' x o) : Inv X pins σ (upd H x o) { s with heap := h', toks := t' } := I.un (Un.write mu he k heo) (I.hok.write mu he k heo new)
theorem Inv.pins_of {pins' : List (Addr × Obj)} (I : Inv X pins σ H s) (h : ∀ p ∈ pins', s.heap.get? p.1 = some p.2 ∧ H p.1 = none ∧ p.1 ≠ X.env.locals ∧ p.1 ∉ X.fs ∧ ∀ v, p.2.data ≠ .cell v) : Inv X pins' σ H s :=
  ⟨I.ok, I.os, I.bare, I.base, I.loc, I.cell, I.free, I.freeC, fun p hp => (List.mem_append.mp hp).elim (fun z => I.pin p (List.mem_append_left _ z)) (h p), I.hok, I.len⟩
theorem nodup_ix {N : List Str} (hN : N.Nodup) {i j : Nat} {x : Str} (a : N[i]? = some x) (b : N[j]? = some x) : i = j := by
  obtain ⟨h1, e1⟩ := List.getElem?_eq_some_iff.mp a
  obtain ⟨h2, e2⟩ := List.getElem?_eq_some_iff.mp b
  exact (List.getElem_inj hN).mp (e1.trans e2.symm)
theorem store_ok2 {M : Model} {A : Around} {E : Value → Shared → Prop} {i : Nat} {x : Str} {v : V} {u : Value} {Q : Unit → Shared → Prop} (I : Inv X pins σ H s) (hN : X.N.Nodup) (hi : X.N[i]? = some x) (hx : Loc X.env.scope x) (r : RelV v u)
    (h : ∀ s', Inv X pins (σ.set i (some v)) H s' → (∃ a, Heap.SameBut a s.heap s'.heap ∧ (a = X.env.locals ∨ X.env.cells.lookup x = some a)) → Q () s') (hf : X.fn x = true ∨ X.env.scope.names.lookup x = some .local := by first | exact .inl rfl | exact .inr rfl | assumption) : wpAny M A (storeName X.env x u) Q E s := by
  obtain ⟨m, hn, hl⟩ := id I.loc
  have hcls : (X.env.scope.kind == .class || (X.env.scope.kind == .module && X.env.locals != X.env.globals)) = false := by rw [I.ok.kind]; rfl
  have hiσ : i < σ.length := by rw [I.len]; exact (List.getElem?_eq_some_iff.mp hi).1
  have cne := I.cne
  have tracked : ∀ {a : Addr} {h' : Heap}, (∃ o, s.heap.get? a = some o ∧ H a = none) → Heap.SameBut a s.heap h' → HOk X.prog X.w H h' := fun {a h'} ha hs b ob e => by
    obtain ⟨_, _, hfree⟩ := ha
    refine (I.hok b ob e).stay (fun c w' hc q => (hs.2 c ?_).trans q) (fun _ q => q) fun _ _ q => q
    rintro rfl
    rcases hc with rfl | hc
    · rw [hfree] at e; cases e
    · rw [hfree] at hc; cases hc
  rcases hx with hk | hk
  · refine wpAny_storeName_local hk hn (fun h' hn' hs => ?_) hcls
    obtain ⟨oL, _, _, hoL, _⟩ := id hn
    refine h _ ⟨I.ok, I.os, I.bare, ⟨fun b o e n hb hx => ?_, fun b o e n hb hx => ?_, I.base.free, fun b o e hx => ?_, I.base.tups, I.base.frzs, I.base.tbls⟩, ⟨_, hn', fun j y v' e1 e2 e3 => ?_⟩, fun y c e => ?_, I.free, I.freeC, fun p hp => ?_, tracked ⟨oL, hoL, I.free⟩ hs, by simpa using I.len⟩ ⟨_, hs, .inl rfl⟩
    · exact (hs.2 b (Nat.ne_of_lt (Nat.lt_of_lt_of_le (Heap.lt_size e) I.ok.above))).trans (I.base.keep b o e n hb hx)
    · obtain ⟨sl, e1⟩ := I.base.slot b o e n hb hx
      exact ⟨sl, (hs.2 b (Nat.ne_of_lt (Nat.lt_of_lt_of_le (Heap.lt_size e) I.ok.above))).trans e1⟩
    · obtain ⟨o', e1⟩ := I.base.there b o e hx
      exact ⟨o', (hs.2 b (Nat.ne_of_lt (Nat.lt_of_lt_of_le (Heap.lt_size e) I.ok.above))).trans e1⟩
    · by_cases hj : j = i
      · subst hj
        rw [hi] at e1; cases e1
        rw [List.getElem?_set_self hiσ] at e2
        cases e2
        exact ⟨u, r, .inl ⟨hk, by simp⟩⟩
      · rw [List.getElem?_set_ne (Ne.symm hj)] at e2
        obtain ⟨u', r', q⟩ := hl j y v' e1 e2 e3
        refine ⟨u', r', ?_⟩
        rcases q with ⟨k, e⟩ | ⟨k, c, e, z⟩
        · refine .inl ⟨k, ?_⟩
          have : y ≠ x := fun e => hj (nodup_ix hN e1 (e ▸ hi))
          simp [this, e]
        · exact .inr ⟨k, c, e, z.sameBut hs (cne y c e)⟩
    · obtain ⟨w', z⟩ := I.cell y c e
      exact ⟨w', z.sameBut hs (cne y c e)⟩
    · obtain ⟨e, n, ne, nf, d⟩ := I.pin p hp
      exact ⟨(hs.2 p.1 ne).trans e, n, ne, nf, d⟩
  · have hfn : X.fn x = true := by
      rcases hf with z | z
      · exact z
      · rw [z] at hk; cases hk
    obtain ⟨c, hc⟩ := I.ok.has x (.inl hk)
    obtain ⟨w', z⟩ := I.cell x c hc
    refine wpAny_storeName_cell I.ok.kind hk hc z (fun h' hc' hs => ?_)
    obtain ⟨oc, hoc, hocd⟩ := id z
    refine h { s with heap := h' } ⟨I.ok, I.os, I.bare, ⟨fun b o e n hb hx => ?_, fun b o e n hb hx => ?_, I.base.free, fun b o e hx => ?_, I.base.tups, I.base.frzs, I.base.tbls⟩, ⟨m, hn.sameBut hs (Ne.symm (cne x c hc)), fun j y v' e1 e2 e3 => ?_⟩, fun y c' e => ?_, I.free, I.freeC, fun p hp => ?_, tracked ⟨oc, hoc, I.freeC x c hc⟩ hs, by simpa using I.len⟩ ⟨c, hs, .inr hc⟩
    · exact (hs.2 b (Nat.ne_of_lt (Nat.lt_of_lt_of_le (Heap.lt_size e) (I.ok.cab x c hfn hc)))).trans (I.base.keep b o e n hb hx)
    · obtain ⟨sl, e1⟩ := I.base.slot b o e n hb hx
      exact ⟨sl, (hs.2 b (Nat.ne_of_lt (Nat.lt_of_lt_of_le (Heap.lt_size e) (I.ok.cab x c hfn hc)))).trans e1⟩
    · obtain ⟨o', e1⟩ := I.base.there b o e hx
      exact ⟨o', (hs.2 b (Nat.ne_of_lt (Nat.lt_of_lt_of_le (Heap.lt_size e) (I.ok.cab x c hfn hc)))).trans e1⟩
    · by_cases hj : j = i
      · subst hj
        rw [hi] at e1; cases e1
        rw [List.getElem?_set_self hiσ] at e2
        cases e2
        exact ⟨u, r, .inr ⟨.inl hk, c, hc, hc'⟩⟩
      · rw [List.getElem?_set_ne (Ne.symm hj)] at e2
        obtain ⟨u', r', q⟩ := hl j y v' e1 e2 e3
        refine ⟨u', r', ?_⟩
        rcases q with q | ⟨k, c', e, z'⟩
        · exact .inl q
        · refine .inr ⟨k, c', e, z'.sameBut hs ?_⟩
          rintro rfl
          exact hj (nodup_ix hN e1 (I.ok.inj _ _ _ e hc ▸ hi))
    · by_cases hcc : c' = c
      · subst hcc; exact ⟨_, hc'⟩
      · obtain ⟨w2, z2⟩ := I.cell y c' e
        exact ⟨w2, z2.sameBut hs hcc⟩
    · obtain ⟨e, n, ne, nf, d⟩ := I.pin p hp
      refine ⟨(hs.2 p.1 ?_).trans e, n, ne, nf, d⟩
      intro q
      rw [q, hoc] at e
      have q' : oc = p.2 := Option.some.inj e
      exact d w' (by rw [← q']; exact hocd)
theorem store_ok {M : Model} {A : Around} {E : Value → Shared → Prop} {i : Nat} {x : Str} {v : V} {u : Value} {Q : Unit → Shared → Prop} (I : Inv X pins σ H s) (hN : X.N.Nodup) (hi : X.N[i]? = some x) (hx : Loc X.env.scope x) (r : RelV v u)
    (h : ∀ s', Inv X pins (σ.set i (some v)) H s' → Q () s') (hf : X.fn x = true ∨ X.env.scope.names.lookup x = some .local := by first | exact .inl rfl | exact .inr rfl | assumption) : wpAny M A (storeName X.env x u) Q E s :=
  store_ok2 I hN hi hx r (fun s' I' _ => h s' I') hf
theorem Inv.call' {s' : Shared} {ch : List Addr} (I : Inv X pins σ H s) (ho : s'.os = s.os) (u : Un (frs X.stack) ch H H' s.heap s'.heap) (hok : HOk X.prog X.w H' s'.heap) (hg : AllBare s'.gens)
    (hch : ∀ b ∈ ch, (b ∈ X.ex ∨ X.s₀.heap.objs.size ≤ b) ∧ b ≠ X.env.locals ∧ (∀ x c, X.env.cells.lookup x = some c → c ≠ b) ∧ ∀ p ∈ X.pn ++ pins, p.1 ≠ b) : Inv X pins σ H' s' := by
  obtain ⟨h', g', d', t', o'⟩ := s'
  have e : o' = s.os := ho
  subst e
  exact I.call (g' := g') (t' := t') (d' := d') u hok hg hch
end
noncomputable abbrev XK := Value → Option Addr → Hp → Prop
noncomputable abbrev St := List (Option V)
noncomputable abbrev VK := V → Hp → Prop
noncomputable abbrev TE := St → Hp → VK → Prop
noncomputable abbrev TT := St → Hp → (Bool → Hp → Prop) → Prop
noncomputable abbrev TA := St → Hp → (List V → Hp → Prop) → Prop
structure Ends where
  nx : St → Hp → Prop
  rt : VK
  bk : St → Hp → Prop := fun _ _ => False
  ct : St → Hp → Prop := fun _ _ => False
noncomputable abbrev TS := Ends → St → Hp → Prop
noncomputable def EP (X : Cx) (pins : List (Addr × Obj)) (σ : St) (Q : VK) (u : Value) (s' : Shared) : Prop := ∃ v H', Inv X pins σ H' s' ∧ RelV v u ∧ Q v H'
noncomputable def TP (X : Cx) (pins : List (Addr × Obj)) (σ : St) (Q : Bool → Hp → Prop) (b : Bool) (s' : Shared) : Prop := ∃ H', Inv X pins σ H' s' ∧ Q b H'
noncomputable def AP (X : Cx) (pins : List (Addr × Obj)) (σ : St) (Q : List V → Hp → Prop) (us : List Value) (s' : Shared) : Prop := ∃ vs H', Inv X pins σ H' s' ∧ Vals vs us ∧ Q vs H'
noncomputable def SP (X : Cx) (pins : List (Addr × Obj)) (D : Ends) (f : Flow) (s' : Shared) : Prop :=
  match f with
  | .next => ∃ σ' H', Inv X pins σ' H' s' ∧ D.nx σ' H'
  | .brk => ∃ σ' H', Inv X pins σ' H' s' ∧ D.bk σ' H'
  | .cont => ∃ σ' H', Inv X pins σ' H' s' ∧ D.ct σ' H'
  | .ret u => ∃ v σ' H', Inv X pins σ' H' s' ∧ RelV v u ∧ D.rt v H'
noncomputable def PE (X : Cx) (e : Expr) (t : TE) : Prop :=
  ∀ (pins : List (Addr × Obj)) (s : Shared) (σ : St) (H : Hp) (Q : VK), Inv X pins σ H s → t σ H Q → wpAny (model X.prog X.w) X.A (eval e X.env) (EP X pins σ Q) X.xe s
noncomputable def PT (X : Cx) (e : Expr) (t : TT) : Prop :=
  ∀ (pins : List (Addr × Obj)) (s : Shared) (σ : St) (H : Hp) (Q : Bool → Hp → Prop), Inv X pins σ H s → t σ H Q → wpAny (model X.prog X.w) X.A (isTrue e X.env (eval e X.env)) (TP X pins σ Q) X.xe s
noncomputable def PW (X : Cx) (e : Expr) (t : TT) : Prop :=
  ∀ (whole : Sem Value) (pins : List (Addr × Obj)) (s : Shared) (σ : St) (H : Hp) (Q : Bool → Hp → Prop), Inv X pins σ H s → t σ H Q → wpAny (model X.prog X.w) X.A (isTrue e X.env whole) (TP X pins σ Q) X.xe s
theorem PW.pt {X : Cx} {e : Expr} {t : TT} (h : PW X e t) : PT X e t := h _
noncomputable def PA (X : Cx) (es : List Expr) (t : TA) : Prop :=
  ∀ (pos : Pos) (pins : List (Addr × Obj)) (s : Shared) (σ : St) (H : Hp) (Q : List V → Hp → Prop), Inv X pins σ H s → t σ H Q → wpAny (model X.prog X.w) X.A (spliced (backTo pos (starEach es X.env))) (AP X pins σ Q) X.xe s
noncomputable def PS (X : Cx) (st : Stmt) (t : TS) : Prop :=
  ∀ (pins : List (Addr × Obj)) (s : Shared) (σ : St) (H : Hp) (D : Ends), Inv X pins σ H s → t D σ H → wpAny (model X.prog X.w) X.A (exec st X.env) (SP X pins D) X.xe s
noncomputable def PSs (X : Cx) (st : List Stmt) (t : TS) : Prop :=
  ∀ (pins : List (Addr × Obj)) (s : Shared) (σ : St) (H : Hp) (D : Ends), Inv X pins σ H s → t D σ H → wpAny (model X.prog X.w) X.A (execs st X.env) (SP X pins D) X.xe s
theorem thn {α : Type} {t : Sem α} {Q Q' : α → Shared → Prop} {M : Model} {A : Around} {E : Value → Shared → Prop} {s : Shared} (h : wpAny M A t Q E s) (hQ : ∀ a s, Q a s → Q' a s) : wpAny M A t Q' E s := wpAny_mono h hQ fun _ _ x => x
end L2
namespace L2
open PySem PySem.Spec PyProof.Rows
section
variable {X : Cx}
noncomputable def tVar (i : Nat) : TE := fun σ H Q => ∃ v, σ[i]? = some (some v) ∧ Q v H
noncomputable def tC (v : V) : TE := fun _ H Q => Q v H
theorem pe_var {i : Nat} {x : Str} {pos : Pos} (hN : X.N[i]? = some x) (hv : Vis X.env.scope x) (hd : (x == ("__debug__" : Str)) = false := by decide) (hcd : (x == ("__classdict__" : Str)) = false := by decide) : PE X (.Name x pos) (tVar i) := by
  intro pins s σ H Q I h
  obtain ⟨v, e, h⟩ := h
  obtain ⟨m, hn, hl⟩ := I.loc
  obtain ⟨u, r, l⟩ := hl i x v hN e hv
  have fin : EP X pins σ Q u s := ⟨v, H, I, r, h⟩
  rcases l with ⟨hk, hm⟩ | ⟨hk, c, hc, hcell⟩
  · exact wpAny_Name (wpAny_loadName_local I.ok.kind hk hn hm fin) hd
  · rcases hk with hk | hk
    · exact wpAny_Name (wpAny_loadName_cell I.ok.kind hk hc hcell fin) hd
    · exact wpAny_Name (wpAny_loadName_free I.ok.kind hk hc hcell fin hcd) hd
theorem pe_int {i j pos} : PE X (.Constant (.int i) j pos) (tC (.int i)) := fun _ _ _ H _ I h => wpAny_Constant_int ⟨.int i, H, I.tok _, ⟨_, rfl⟩, h⟩
theorem pe_non {j pos} : PE X (.Constant .none j pos) (tC .non) := fun _ _ _ H _ I h => Constant_none ⟨.non, H, I, rfl, h⟩
theorem pe_str {x j pos} : PE X (.Constant (.str x) j pos) (tC (.str x)) := fun _ _ _ H _ I h => Calls.Constant_str ⟨.str x, H, I.tok _, ⟨_, rfl⟩, h⟩
noncomputable def Gl (X : Cx) (x : Str) : Prop := X.env.kindOf x = some .globalImplicit
theorem ld_glob {E : Value → Shared → Prop} {pins : List (Addr × Obj)} {s : Shared} {σ : St} {H : Hp} {x : Str} {u : Value} {pos : Pos} {Q : Value → Shared → Prop} (I : Inv X pins σ H s) (hg : Gl X x) (hm : X.mg x = some u) (h : Q u s)
    (hd : (x == ("__debug__" : Str)) = false := by decide) : wpAny (model X.prog X.w) X.A (eval (.Name x pos) X.env) Q E s :=
  Calls.Name_function_global I.ok.kind hg (Calls.loadGlobal_global (by rw [I.ok.glob]; exact I.mod.glob.keeps I.bk) hm h) hd
theorem ld_blt {E : Value → Shared → Prop} {pins : List (Addr × Obj)} {s : Shared} {σ : St} {H : Hp} {x : Str} {u : Value} {pos : Pos} {Q : Value → Shared → Prop} (I : Inv X pins σ H s) (hg : Gl X x) (hm : X.mg x = none) (hv : bootBuiltins x = some u) (h : Q u s)
    (hn : x ≠ "__name__" := by decide) (hd : (x == ("__debug__" : Str)) = false := by decide) : wpAny (model X.prog X.w) X.A (eval (.Name x pos) X.env) Q E s := by
  obtain ⟨mb, h1, h2⟩ := I.mod.blt
  exact Calls.Name_function_global I.ok.kind hg (Calls.loadGlobal_builtin (by rw [I.ok.glob]; exact I.mod.glob.keeps I.bk) hm (by rw [I.ok.blt]; exact h1.keeps I.bk) ((h2 x hn).trans hv) h) hd
theorem pe_glob {x : Str} {v : V} {u : Value} {pos : Pos} (hg : Gl X x) (hm : X.mg x = some u) (r : RelV v u) (hd : (x == ("__debug__" : Str)) = false := by decide) : PE X (.Name x pos) (tC v) :=
  fun _ _ _ H _ I h => ld_glob I hg hm ⟨v, H, I, r, h⟩ hd
theorem pe_bltn {x : Str} {v : V} {u : Value} {pos : Pos} (hg : Gl X x) (hm : X.mg x = none) (hv : bootBuiltins x = some u) (r : RelV v u) (hn : x ≠ "__name__" := by decide) (hd : (x == ("__debug__" : Str)) = false := by decide) : PE X (.Name x pos) (tC v) :=
  fun _ _ _ H _ I h => ld_blt I hg hm hv ⟨v, H, I, r, h⟩ hn hd
variable {a b : Expr} {ta tb : TE} {pos : Pos}
variable {tA tB' : TT} {rest : List Expr}
noncomputable def tAnd (t u : TT) : TT := fun σ H Q => t σ H fun c H1 => if c = true then u σ H1 Q else Q false H1
noncomputable def tOr (t u : TT) : TT := fun σ H Q => t σ H fun c H1 => if c = true then Q true H1 else u σ H1 Q
noncomputable def tNot (t : TT) : TT := fun σ H Q => t σ H fun c H1 => Q (!c) H1
theorem pw_and1 (ha : PT X a tA) : PW X (.BoolOp .And [a] pos) tA := by
  intro wh pins s σ H Q I h
  refine isTrue_and (thn (ha pins s σ H Q I h) fun c s1 e => ?_)
  cases c with
  | true => exact isTrue_and_nil e
  | false => exact e
theorem pw_or1 (ha : PT X a tA) : PW X (.BoolOp .Or [a] pos) tA := by
  intro wh pins s σ H Q I h
  refine isTrue_or (thn (ha pins s σ H Q I h) fun c s1 e => ?_)
  cases c with
  | false => exact isTrue_or_nil e
  | true => exact e
theorem pw_and (ha : PT X a tA) (hb : PW X (.BoolOp .And (b :: rest) pos) tB') : PW X (.BoolOp .And (a :: b :: rest) pos) (tAnd tA tB') := by
  intro wh pins s σ H Q I h
  refine isTrue_and (thn (ha pins s σ H _ I h) fun c s1 ⟨H1, I1, q1⟩ => ?_)
  cases c with
  | true => exact hb wh pins s1 σ H1 Q I1 q1
  | false => exact ⟨H1, I1, q1⟩
theorem pw_or (ha : PT X a tA) (hb : PW X (.BoolOp .Or (b :: rest) pos) tB') : PW X (.BoolOp .Or (a :: b :: rest) pos) (tOr tA tB') := by
  intro wh pins s σ H Q I h
  refine isTrue_or (thn (ha pins s σ H _ I h) fun c s1 ⟨H1, I1, q1⟩ => ?_)
  cases c with
  | true => exact ⟨H1, I1, q1⟩
  | false => exact hb wh pins s1 σ H1 Q I1 q1
theorem pt_not (ha : PT X a tA) : PT X (.UnaryOp .Not a pos) (tNot tA) := by
  intro pins s σ H Q I h
  exact isTrue_not (ha pins s σ H (fun c H1 => Q (!c) H1) I h)
noncomputable def tAndV (ta tb : TE) : TE := fun σ H Q => ta σ H fun x H1 => ∃ c, x = .bl c ∧ if c = true then tb σ H1 Q else Q (.bl false) H1
noncomputable def tNotV (ta : TE) : TE := fun σ H Q => ta σ H fun x H1 => ∃ c, x = .bl c ∧ Q (.bl (!c)) H1
theorem pe_one {op} {t : TE} (h : PE X a t) : PE X (.BoolOp op [a] pos) t := fun pins s σ H Q I hw => BoolOp_one (h pins s σ H Q I hw)
theorem pe_and (ha : PE X a ta) (hb : PE X (.BoolOp .And (b :: rest) pos) tb) : PE X (.BoolOp .And (a :: b :: rest) pos) (tAndV ta tb) := by
  intro pins s σ H Q I h
  refine BoolOp_and (thn (ha pins s σ H _ I h) fun v s1 ⟨x, H1, I1, r1, q1⟩ => ?_)
  obtain ⟨c, rfl, q1⟩ := q1
  cases r1
  refine wpAny_truthy_bool ?_
  cases c with
  | true => exact hb pins s1 σ H1 Q I1 q1
  | false => exact ⟨.bl false, H1, I1, rfl, q1⟩
theorem pe_not (ha : PE X a ta) : PE X (.UnaryOp .Not a pos) (tNotV ta) := by
  intro pins s σ H Q I h
  refine UnaryOp_ (thn (ha pins s σ H _ I h) fun v s1 ⟨x, H1, I1, r1, q1⟩ => ?_)
  obtain ⟨c, rfl, q1⟩ := q1
  cases r1
  exact not_of (wpAny_truthy_bool ⟨.bl (!c), H1, I1, rfl, q1⟩)
noncomputable def tIf (t : TT) (ta tb : TE) : TE := fun σ H Q => t σ H fun c H1 => if c = true then ta σ H1 Q else tb σ H1 Q
theorem pe_ifExp {c : Expr} (hc : PT X c tA) (ha : PE X a ta) (hb : PE X b tb) : PE X (.IfExp c a b pos) (tIf tA ta tb) := by
  intro pins s σ H Q I h
  refine wpAny_IfExp (thn (hc pins s σ H _ I h) fun d s1 ⟨H1, I1, q1⟩ => ?_)
  cases d with
  | true => exact ha pins s1 σ H1 Q I1 q1
  | false => exact hb pins s1 σ H1 Q I1 q1
end
end L2
namespace L2
open PySem PySem.Spec PyProof.Rows
noncomputable def SqL (K : PySem.W.Frag) (H : Hp) (a : Addr) (xs : List V) : Prop :=
  Rd H a (.lst xs) ∨
    ∃ (o : Obj) (its : Array Value) (n : Nat), K.lookup a = some o ∧ o.cls = .type "list" ∧ o.dict = none ∧ o.data = .seq its n ∧ its.size ≤ sizeLine ∧ Vals xs its.toList
noncomputable def SqT (K : PySem.W.Frag) (H : Hp) (a : Addr) (xs : List V) : Prop :=
  Rd H a (.tup xs) ∨
    ∃ (o : Obj) (its : Array Value) (n : Nat), K.lookup a = some o ∧ o.cls = .type "tuple" ∧ o.data = .seq its n ∧ its.size ≤ sizeLine ∧ Vals xs its.toList
noncomputable def absV : Value → Option V
  | .none => some .non
  | .bool b => some (.bl b)
  | .int i _ => some (.int i)
  | .str x _ => some (.str x)
  | .bytes b _ => some (.byt b)
  | .float b _ => some (.flt b)
  | .ref a => some (.ref a)
  | .type n => some (.ty n)
  | _ => none
theorem RelV.abs {x : V} {u : Value} (r : RelV x u) : absV u = some x := by
  cases x with
  | non => cases r; rfl
  | bl _ => cases r; rfl
  | int _ => obtain ⟨t, rfl⟩ := r; rfl
  | str _ => obtain ⟨t, rfl⟩ := r; rfl
  | byt _ => obtain ⟨t, rfl⟩ := r; rfl
  | flt _ => obtain ⟨t, rfl⟩ := r; rfl
  | ref _ => cases r; rfl
  | ty _ => cases r; rfl
theorem RelV.inj {x y : V} {u : Value} (r : RelV x u) (q : RelV y u) : x = y := Option.some.inj (r.abs.symm.trans q.abs)
theorem Vals.inj : ∀ {xs ys : List V} {us : List Value}, Vals xs us → Vals ys us → xs = ys
  | _, _, _, .nil, .nil => rfl
  | _, _, _, .cons r t, .cons r' t' => by rw [r.inj r', Vals.inj t t']
section
variable {X : Cx} {pins : List (Addr × Obj)} {σ : St} {H : Hp} {s : Shared} {a : Addr} {xs ys : List V}
theorem SqL.of {K : PySem.W.Frag} (h : H a = some (.lst xs)) : SqL K H a xs := .inl (.inl h)
theorem SqT.of {K : PySem.W.Frag} (h : H a = some (.tup xs)) : SqT K H a xs := .inl (.inl h)
theorem Inv.list (I : Inv X pins σ H s) (h : SqL X.K H a xs) : ∃ its : List Value, Vals xs its ∧ PlainL s.heap a its.toArray ∧ xs.length ≤ sizeLine := by
  rcases h with h | ⟨o, its, n, hk, hc, hd, hs, hz, r⟩
  · obtain ⟨z, its, n, r, e⟩ := h.ok I.hok
    exact ⟨its, r, ⟨_, n, e, rfl, rfl, rfl⟩, z⟩
  · refine ⟨its.toList, r, ⟨o, n, I.kIn a o hk, hc, hd, by simpa using hs⟩, ?_⟩
    have e := r.length
    simp only [Array.length_toList] at e
    omega
theorem Inv.tuple (I : Inv X pins σ H s) (h : SqT X.K H a xs) : ∃ its : List Value, Vals xs its ∧ IsTup s.heap a its.toArray ∧ xs.length ≤ sizeLine := by
  rcases h with h | ⟨o, its, n, hk, hc, hs, hz, r⟩
  · obtain ⟨z, its, r, p⟩ := h.ok I.hok
    exact ⟨its, r, p, z⟩
  · refine ⟨its.toList, r, ⟨o, I.kIn a o hk, hc, n, by simpa using hs⟩, ?_⟩
    have e := r.length
    simp only [Array.length_toList] at e
    omega
theorem Inv.list_inj (I : Inv X pins σ H s) (h : SqL X.K H a xs) (h' : SqL X.K H a ys) : xs = ys := by
  obtain ⟨its, r, ⟨o, n, e, _, _, d⟩, _⟩ := I.list h
  obtain ⟨its', r', ⟨o', n', e', _, _, d'⟩, _⟩ := I.list h'
  rw [e] at e'; cases e'
  rw [d] at d'
  injection d' with d1 _
  have : its = its' := by simpa using congrArg Array.toList d1
  subst this
  exact r.inj r'
end
noncomputable abbrev Cx.wish (X : Cx) (E : Value → Shared → Prop) : Cx := { X with xe := E }
noncomputable abbrev Cx.nox (X : Cx) : Cx := X.wish fun _ _ => False
theorem Cx.Ok.wish {X : Cx} (ok : X.Ok) (E : Value → Shared → Prop) : (X.wish E).Ok :=
  ⟨ok.mod, ok.kind, ok.glob, ok.blt, ok.above, ok.inj, ok.has, ok.cab, ok.hd, ok.frames, ok.stk, ok.exf, ok.bs, ok.bsz, ok.noex, ok.exfs, ok.funs, ok.frf⟩
theorem Cx.Ok.unwish {X : Cx} {E : Value → Shared → Prop} (ok : (X.wish E).Ok) : X.Ok :=
  ⟨ok.mod, ok.kind, ok.glob, ok.blt, ok.above, ok.inj, ok.has, ok.cab, ok.hd, ok.frames, ok.stk, ok.exf, ok.bs, ok.bsz, ok.noex, ok.exfs, ok.funs, ok.frf⟩
section
variable {X : Cx} {pins : List (Addr × Obj)} {σ : St} {H : Hp} {s : Shared} {E : Value → Shared → Prop}
theorem Inv.wish (I : Inv X pins σ H s) (E : Value → Shared → Prop) : Inv (X.wish E) pins σ H s := ⟨I.ok.wish E, I.os, I.bare, I.base, I.loc, I.cell, I.free, I.freeC, I.pin, I.hok, I.len⟩
theorem Inv.unwish (I : Inv (X.wish E) pins σ H s) : Inv X pins σ H s := ⟨I.ok.unwish, I.os, I.bare, I.base, I.loc, I.cell, I.free, I.freeC, I.pin, I.hok, I.len⟩
theorem SP.unwish {D : Ends} {f : Flow} {s' : Shared} (h : SP (X.wish E) pins D f s') : SP X pins D f s' := by
  cases f with
  | next => obtain ⟨σ', H', I, q⟩ := h; exact ⟨σ', H', I.unwish, q⟩
  | brk => obtain ⟨σ', H', I, q⟩ := h; exact ⟨σ', H', I.unwish, q⟩
  | cont => obtain ⟨σ', H', I, q⟩ := h; exact ⟨σ', H', I.unwish, q⟩
  | ret u => obtain ⟨v, σ', H', I, r, q⟩ := h; exact ⟨v, σ', H', I.unwish, r, q⟩
theorem PSs.nox {st : List Stmt} {t : TS} (h : PSs X.nox st t) : PSs X st t := fun pins s σ H D I hw =>
  wpAny_mono (h pins s σ H D (I.wish _) hw) (fun _ _ q => q.unwish) fun _ _ z => False.elim z
end
section
variable {X : Cx} {st : Stmt} {rest : List Stmt} {t u : TS} {e : Expr} {te : TE} {pos : Pos}
noncomputable def tNext : TS := fun D σ H => D.nx σ H
noncomputable def tSeq (t u : TS) : TS := fun D σ H => t { D with nx := u D } σ H
theorem pss_nil : PSs X [] tNext := fun _ _ σ H _ I h => wpAny_execs_nil ⟨σ, H, I, h⟩
theorem pss_cons (h1 : PS X st t) (h2 : PSs X rest u) : PSs X (st :: rest) (tSeq t u) := by
  intro pins s σ H D I h
  refine wpAny_execs_cons (thn (h1 pins s σ H { D with nx := u D } I h) fun f s1 q => ?_)
  cases f with
  | next =>
    obtain ⟨σ', H', I', q⟩ := q
    exact h2 pins s1 σ' H' D I' q
  | ret v => exact q
  | brk => exact q
  | cont => exact q
theorem pss_one (h1 : PS X st t) : PSs X [st] t := by
  intro pins s σ H D I h
  refine wpAny_execs_cons (thn (h1 pins s σ H D I h) fun f s1 q => ?_)
  cases f with
  | next => exact wpAny_execs_nil q
  | ret v => exact q
  | brk => exact q
  | cont => exact q
theorem Inv.quiet {pins : List (Addr × Obj)} {σ : St} {H : Hp} {s : Shared} (I : Inv X pins σ H s) : interactive X.env = false := by simp [interactive, I.ok.kind]
noncomputable def tDrop (te : TE) : TS := fun D σ H => te σ H fun _ H1 => D.nx σ H1
theorem ps_expr (he : PE X e te) (hs : swapsWith e none pos.line X.env = pure false := by rfl) : PS X (.Expr e pos) (tDrop te) := by
  intro pins s σ H D I h
  exact wpAny_Expr_any (thn (he pins s σ H _ I h) fun v s1 ⟨x, H1, I1, r1, q1⟩ => ⟨σ, H1, I1, q1⟩) I.quiet hs
noncomputable def tRet (te : TE) : TS := fun D σ H => te σ H D.rt
theorem ps_ret (he : PE X e te) : PS X (.Return (some e) pos) (tRet te) := by
  intro pins s σ H D I h
  exact wpAny_Return_some (thn (he pins s σ H _ I h) fun v s1 ⟨x, H1, I1, r1, q1⟩ => ⟨x, σ, H1, I1, r1, q1⟩)
noncomputable def tIfS (c : TT) (t u : TS) : TS := fun D σ H => c σ H fun b H1 => if b = true then t D σ H1 else u D σ H1
theorem ps_if {c : Expr} {a b : List Stmt} {tc : TT} (hc : PT X c tc) (ha : PSs X a t) (hb : PSs X b u) : PS X (.If c a b pos) (tIfS tc t u) := by
  intro pins s σ H D I h
  refine wpAny_If (thn (hc pins s σ H _ I h) fun d s1 ⟨H1, I1, q1⟩ => ?_)
  cases d with
  | true => exact ha pins s1 σ H1 D I1 q1
  | false => exact hb pins s1 σ H1 D I1 q1
end
noncomputable abbrev TG := V → St → Hp → (St → Hp → Prop) → Prop
noncomputable def PG (X : Cx) (target : Expr) (t : TG) : Prop :=
  ∀ (pins : List (Addr × Obj)) (s : Shared) (σ : St) (H : Hp) (v : V) (u : Value) (Q : St → Hp → Prop), Inv X pins σ H s → RelV v u → t v σ H Q →
    wpAny (model X.prog X.w) X.A (assign target X.env u) (fun _ s' => ∃ σ' H', Inv X pins σ' H' s' ∧ Q σ' H') X.xe s
noncomputable abbrev TSet := V → V → V → Hp → (Hp → Prop) → Prop
noncomputable def PSet (X : Cx) (t : TSet) : Prop :=
  ∀ (pins : List (Addr × Obj)) (s : Shared) (σ : St) (H : Hp) (o i v : V) (ov iv u : Value) (Q : Hp → Prop), Inv X pins σ H s → RelV o ov → RelV i iv → RelV v u → t o i v H Q →
    wpAny (model X.prog X.w) X.A (setItem ov iv u) (fun _ s' => ∃ H', Inv X pins σ H' s' ∧ Q H') X.xe s
section
variable {X : Cx} {pos : Pos}
noncomputable def gName (i : Nat) : TG := fun v σ H Q => Q (σ.set i (some v)) H
theorem pg_name {i : Nat} {x : Str} (hN : X.N.Nodup) (hi : X.N[i]? = some x) (hx : Loc X.env.scope x) (hf : X.fn x = true ∨ X.env.scope.names.lookup x = some .local := by first | exact .inl rfl | exact .inr rfl | assumption) : PG X (.Name x pos) (gName i) := by
  intro pins s σ H v u Q I r h
  exact wpAny_assign_Name (store_ok I hN hi hx r (fun s' I' => ⟨_, H, I', h⟩) hf)
noncomputable def gSub (to ti : TE) (t : TSet) : TG := fun v σ H Q => to σ H fun o H1 => ti σ H1 fun i H2 => t o i v H2 fun H3 => Q σ H3
theorem pg_sub {o i : Expr} {to ti : TE} {t : TSet} (ho : PE X o to) (hi : PE X i ti) (hs : PSet X t)
    (ha : ∀ v, assign (.Subscript o i pos) X.env v = (do
      let ov ← holding [v] (eval o X.env)
      let iv ← holding [v, ov] (eval i X.env)
      standAt pos
      holding [v, ov, iv] (setItem ov iv v)
      release [v, ov, iv] []) := by intro _; rfl) : PG X (.Subscript o i pos) (gSub to ti t) := by
  intro pins s σ H v u Q I r h
  rw [ha]
  refine wpAny_bind (wpAny_holding (thn (ho pins s σ H _ I h) fun ov s1 ⟨x, H1, I1, r1, q1⟩ => ?_))
  refine wpAny_bind (wpAny_holding (thn (hi pins s1 σ H1 _ I1 q1) fun iv s2 ⟨y, H2, I2, r2, q2⟩ => ?_))
  refine wpAny_bind (wpAny_standAt (wpAny_bind (wpAny_holding (thn (hs pins s2 σ H2 x y v ov iv u _ I2 r1 r2 r q2) fun _ s3 ⟨H3, I3, q3⟩ => ?_))))
  exact wpAny_release ⟨σ, H3, I3, q3⟩
noncomputable def tAsg (te : TE) (g : TG) : TS := fun D σ H => te σ H fun x H1 => g x σ H1 D.nx
theorem ps_asg {tg e : Expr} {te : TE} {g : TG} (he : PE X e te) (hg : PG X tg g) (hs : swapsWithSole [tg] e pos.line X.env = pure false := by rfl) (hw : swappedStores [tg] e X.env = pure none := by rfl)
    (h1 : (assignEach [tg] X.env).map (·.2) = [assign tg X.env] := by rfl) : PS X (.Assign [tg] e pos) (tAsg te g) := by
  intro pins s σ H D I h
  refine wpAny_Assign_stores (thn (he pins s σ H _ I h) fun v s1 ⟨x, H1, I1, r1, q1⟩ => ?_) hs hw
  rw [h1]
  exact thn (hg pins s1 σ H1 x v _ I1 r1 q1) fun _ s2 q => q
theorem ps_set {i : Nat} {x : Str} {e : Expr} {te : TE} {pos' : Pos} (hN : X.N.Nodup) (hi : X.N[i]? = some x) (hx : Loc X.env.scope x) (he : PE X e te) (hs : swapsWith e (some (.Name x pos')) pos.line X.env = pure false := by rfl) (hf : X.fn x = true ∨ X.env.scope.names.lookup x = some .local := by first | exact .inl rfl | exact .inr rfl | assumption) :
    PS X (.Assign [.Name x pos'] e pos) (tAsg te (gName i)) := by
  intro pins s σ H D I h
  refine wpAny_Assign_Name (thn (he pins s σ H _ I h) fun v s1 ⟨y, H1, I1, r1, q1⟩ => ?_) hs
  exact store_ok I1 hN hi hx r1 (fun s2 I2 => ⟨_, H1, I2, q1⟩) hf
end
section
variable {X : Cx} {pos : Pos}
end
structure It where
  go : Nat → Hp → Prop
  yld : Nat → Hp → V → Hp → Prop
  stop : Nat → Hp → Prop
noncomputable def FpOk (X : Cx) (pins : List (Addr × Obj)) (H : Hp) (b : Addr) : Prop :=
  H b = none ∧ b ≠ X.env.locals ∧ b ∉ X.fs ∧ (b ∈ X.ex ∨ X.s₀.heap.objs.size ≤ b) ∧ (∀ x c, X.env.cells.lookup x = some c → c ≠ b) ∧ ∀ p ∈ X.pn ++ pins, p.1 ≠ b
theorem Inv.fpOk {X : Cx} {pins : List (Addr × Obj)} {σ : St} {H H' : Hp} {s : Shared} {b : Addr} (I : Inv X pins σ H s) (hb : s.heap.objs.size ≤ b) (hn : H' b = none) : FpOk X pins H' b := by
  refine ⟨hn, Nat.ne_of_gt (Nat.lt_of_lt_of_le I.lt hb), I.nofs hb, .inr (Nat.le_trans I.sz hb), fun x c e z => ?_, fun p hp z => ?_⟩
  · obtain ⟨v, q⟩ := I.cell x c e
    exact absurd (Nat.lt_of_lt_of_le q.lt (by rw [z]; exact hb)) (Nat.lt_irrefl _)
  · exact absurd (Nat.lt_of_lt_of_le (Heap.lt_size (I.pin p hp).1) (by rw [z]; exact hb)) (Nat.lt_irrefl _)
structure Turn (P : Program) (w : World) (K : PySem.W.Frag) (tg : Expr) (J : It) (fp : List Addr) (it : Addr) (tn : Nat → Heap → Prop) : Prop where
  mem : it ∈ fp
  obj : ∀ i h, tn i h → ∀ b ∈ fp, ∃ o, h.get? b = some o ∧ ∀ v, o.data ≠ .cell v
  keep : ∀ i h h', tn i h → (∀ b ∈ fp, ∀ o, h.get? b = some o → h'.get? b = some o) → tn i h'
  item : ∀ (X : Cx), X.prog = P → X.w = w → X.K = K → X.calm = true → ∀ (i : Nat) (pins : List (Addr × Obj)) (s : Shared) (σ : St) (H : Hp) (E : Value → Shared → Prop), Inv X pins σ H s → (∀ b ∈ fp, FpOk X pins H b) → tn i s.heap → J.go i H →
    wpAny (model P w) X.A (pyNext (.ref it)) (fun r s1 => ∃ u, r = some u ∧
      wpAny (model P w) X.A (letOwnedTupleGo tg (.ref it) u) (fun _ s2 => ∃ x H', Inv X pins σ H' s2 ∧ RelV x u ∧ J.yld i H x H' ∧ tn (i + 1) s2.heap ∧ ∀ b ∈ fp, H' b = none) E s1) E s
  done : ∀ (X : Cx), X.prog = P → X.w = w → X.K = K → X.calm = true → ∀ (i : Nat) (pins : List (Addr × Obj)) (s : Shared) (σ : St) (H : Hp) (E : Value → Shared → Prop), Inv X pins σ H s → (∀ b ∈ fp, FpOk X pins H b) → tn i s.heap → J.stop i H →
    wpAny (model P w) X.A (pyNext (.ref it)) (fun r s1 => r = none ∧ Inv X pins σ H s1) E s
  self : ∀ (A : Around) (i : Nat) (s : Shared) (Q : Value → Shared → Prop) (E : Value → Shared → Prop), tn i s.heap → Q (.ref it) s → wpAny (model P w) A (pyIter (.ref it)) Q E s
noncomputable abbrev TI := St → Hp → (It → Hp → Prop) → Prop
noncomputable def PIE (X : Cx) (pins : List (Addr × Obj)) (σ : St) (tg : Expr) (R : It → Hp → Prop) (itv : Value) (s2 : Shared) : Prop :=
  ∃ (it : Addr) (fp : List Addr) (tn : Nat → Heap → Prop) (J : It) (H' : Hp), itv = .ref it ∧ Inv X pins σ H' s2 ∧ Turn X.prog X.w X.K tg J fp it tn ∧ tn 0 s2.heap ∧ (∀ b ∈ fp, FpOk X pins H' b) ∧ R J H'
noncomputable def PI (X : Cx) (tg iter : Expr) (wi : TI) : Prop :=
  ∀ (pins : List (Addr × Obj)) (s : Shared) (σ : St) (H : Hp) (R : It → Hp → Prop), Inv X pins σ H s → wi σ H R →
    wpAny (model X.prog X.w) X.A (eval iter X.env) (fun v s1 => wpAny (model X.prog X.w) X.A (pyIter v) (PIE X pins σ tg R) X.xe s1) X.xe s
theorem go_of {M : Model} {A : Around} {E : Value → Shared → Prop} {s : Shared} {tg : Expr} {it : Addr} {u : Value} {o : Obj} {n : String} {vs : Array Value} {Q : Unit → Shared → Prop} (ho : s.heap.get? it = some o) (hc : o.cls = .type n) (hd : o.data = .fields vs)
    (hn : ["enumerate", "zip", "dict_itemiterator", "dict_reverseitemiterator", "odict_iterator", "itertools.zip_longest", "itertools.pairwise"].contains n = false) (hQ : Q () s) : wpAny M A (letOwnedTupleGo tg (.ref it) u) Q E s := by
  unfold letOwnedTupleGo
  cases tg <;> first
    | exact wpAny_pure hQ
    | (cases u <;> first
        | exact wpAny_pure hQ
        | (refine wpAny_bind (wpAny_load ho ?_)
           rw [hc, hd]
           show wpAny M A (if (["enumerate", "zip", "dict_itemiterator", "dict_reverseitemiterator", "odict_iterator", "itertools.zip_longest", "itertools.pairwise"].contains n && vs[0]? == some (rawInt _)) = true then _ else _) Q E s
           rw [if_neg (by intro h; rw [hn, Bool.false_and] at h; cases h)]
           exact wpAny_pure hQ))
noncomputable def Itl (K : PySem.W.Frag) (a : Addr) : It :=
  ⟨fun i H => ∃ xs x, SqL K H a xs ∧ xs[i]? = some x, fun i H x H' => H' = H ∧ ∀ xs, SqL K H a xs → xs[i]? = some x, fun i H => ∃ xs, SqL K H a xs ∧ xs.length ≤ i⟩
noncomputable def Itr (lo : Int) (n : Nat) : It := ⟨fun i _ => i < n, fun i H x H' => H' = H ∧ x = .int (lo + i), fun i _ => n ≤ i⟩
theorem turn_list {P : Program} {w : World} {K : PySem.W.Frag} {tg : Expr} (a it : Addr) : Turn P w K tg (Itl K a) [it] it (fun i h => h.IsListIter it a i) where
  mem := by simp
  obj := fun i h st b hb => by
    have e : b = it := by simpa using hb
    subst e
    obtain ⟨o, e, c, d⟩ := st
    exact ⟨o, e, fun v z => by rw [d] at z; cases z⟩
  keep := fun i h h' st k => st.at fun o e => k it (by simp) o e
  item := by
    intro X hP hw hK hc i pins s σ H E I hf st hg
    subst hP hw hK
    obtain ⟨xs, x, hq, hx⟩ := hg
    obtain ⟨its, rv, p, hz⟩ := I.list hq
    obtain ⟨u, hu, ru⟩ := rv.get hx
    obtain ⟨f0, f1, f2, f3, f4, f5⟩ := hf it (by simp)
    refine wpAny_pyNext_list_item st p.isList (x := u) (by simpa using hu) fun h' st' sb => ?_
    have I1 : Inv X pins σ H { s with heap := h' } := I.turned (t' := s.toks) (fun b o hb e => (sb.2 b hb).trans e) f0 f1 f3 f4 f5
    obtain ⟨o, e, c, d⟩ := id st'
    exact ⟨u, rfl, go_of (s := { s with heap := h' }) e c d (by decide) ⟨x, H, I1, ru, ⟨rfl, fun ys hy => by rw [I.list_inj hy hq]; exact hx⟩, st', fun b hb => (hf b hb).1⟩⟩
  done := by
    intro X hP hw hK hc i pins s σ H E I hf st hg
    subst hP hw hK
    obtain ⟨xs, hq, hx⟩ := hg
    obtain ⟨its, rv, p, hz⟩ := I.list hq
    obtain ⟨f0, f1, f2, f3, f4, f5⟩ := hf it (by simp)
    have hl := rv.length
    exact wpAny_pyNext_list_end (I.ok.hd hc) st p.isList (by simp; omega) fun h' eb => ⟨rfl, I.turned (t' := s.toks) (fun b o hb e => eb b o hb e) f0 f1 f3 f4 f5⟩
  self := fun _ _ _ _ _ st h => wpAny_pyIter_listiter st h
theorem turn_range {P : Program} {w : World} {K : PySem.W.Frag} {tg : Expr} (it : Addr) (lo : Int) (n : Nat) : Turn P w K tg (Itr lo n) [it] it (fun i h => IsRangeIter h it (lo + (i : Nat) * 1) ((n : Int) - (i : Nat)) 1) where
  mem := by simp
  obj := fun i h st b hb => by
    have e : b = it := by simpa using hb
    subst e
    exact ⟨_, st, fun v z => by
      have z' : Data.fields _ = Data.cell v := z
      cases z'⟩
  keep := fun i h h' st k => k it (by simp) _ st
  item := by
    intro X hP hw hK hc i pins s σ H E I hf st hg
    subst hP hw hK
    obtain ⟨f0, f1, f2, f3, f4, f5⟩ := hf it (by simp)
    have W := Walks.range (prog := X.prog) (w := X.w) (I.ok.hd hc) it lo 1 n
    refine W.item i s _ _ hg st fun v h' tk hv st' kk => ?_
    obtain ⟨t, rfl⟩ := hv
    have I1 : Inv X pins σ H { s with heap := h', toks := tk } := I.turned (fun b o hb e => kk b o (by simpa using hb) e) f0 f1 f3 f4 f5
    refine ⟨_, rfl, go_of (s := { s with heap := h', toks := tk }) (n := "range_iterator") st' rfl rfl (by decide) ⟨.int (lo + i), H, I1, ⟨t, ?_⟩, ⟨rfl, rfl⟩, st', fun b hb => (hf b hb).1⟩⟩
    rw [Int.mul_one]
  done := by
    intro X hP hw hK hc i pins s σ H E I hf st hg
    subst hP hw hK
    obtain ⟨f0, f1, f2, f3, f4, f5⟩ := hf it (by simp)
    exact wpAny_pyNext_range_end (I.ok.hd hc) st (by have : n ≤ i := hg; omega) fun h' eb => ⟨rfl, I.turned (t' := s.toks) (fun b o hb e => eb b o hb e) f0 f1 f3 f4 f5⟩
  self := fun _ _ _ _ _ st h => wpAny_pyIter_rangeiter st h
end L2
namespace L2
open PySem PySem.Spec PyProof.Rows
section
variable {X : Cx} {tg : Expr}
noncomputable def iList (K : PySem.W.Frag) (tl : TE) : TI := fun σ H R => tl σ H fun x H1 => ∃ a, x = .ref a ∧ (∃ xs, SqL K H1 a xs) ∧ R (Itl K a) H1
theorem pi_list {l : Expr} {tl : TE} (hl : PE X l tl) : PI X tg l (iList X.K tl) := by
  intro pins s σ H R I h
  refine thn (hl pins s σ H _ I h) fun v s1 ⟨x, H1, I1, r1, q1⟩ => ?_
  obtain ⟨a, e, ⟨xs, hq⟩, q⟩ := q1
  subst e
  cases r1
  obtain ⟨its, rv, p, hz⟩ := I1.list hq
  refine wpAny_pyIter_list p.isList ?_
  refine ⟨s1.heap.objs.size, [s1.heap.objs.size], _, _, H1, rfl, I1.kept (t' := s1.toks) fun b o e => Heap.get?_push_of_some _ e, turn_list a _, ⟨_, Heap.get?_push_size _ rfl, rfl, rfl⟩, fun b hb => ?_, q⟩
  have e : b = s1.heap.objs.size := by simpa using hb
  subst e
  exact I1.fpOk (Nat.le_refl _) (I1.hok.fresh (Nat.le_refl _))
theorem range_it {pins : List (Addr × Obj)} {σ : St} {H : Hp} {s : Shared} {R : It → Hp → Prop} {E : Value → Shared → Prop} {lo hi : Int} {t u v : Tok} {tk : Nat} (I : Inv X pins σ H s) (h1 : -(2 ^ 62) ≤ lo) (h2 : lo < 2 ^ 62) (h3 : -(2 ^ 62) ≤ hi) (h4 : hi < 2 ^ 62)
    (q : R (Itr lo (hi - lo).toNat) H) : wpAny (model X.prog X.w) X.A (pyIter (.ref s.heap.objs.size)) (PIE X pins σ tg R) E { s with heap := s.heap.push { cls := .type "range", data := .fields #[.int lo t, .int hi u, .int 1 v] }, toks := tk } := by
  refine wpAny_pyIter_range (IsRange.new ..) (small_one h1 h2 h3 h4) ?_
  have I1 : Inv X pins σ H { s with heap := s.heap.push { cls := .type "range", data := .fields #[.int lo t, .int hi u, .int 1 v] }, toks := tk } := I.kept fun b o e => Heap.get?_push_of_some _ e
  refine ⟨(s.heap.push { cls := .type "range", data := .fields #[.int lo t, .int hi u, .int 1 v] }).objs.size, [(s.heap.push { cls := .type "range", data := .fields #[.int lo t, .int hi u, .int 1 v] }).objs.size], _, _, H, rfl,
    I1.kept (t' := tk) fun b o e => Heap.get?_push_of_some _ e, turn_range _ lo (hi - lo).toNat, ?_, fun b hb => ?_, q⟩
  · have e1 : lo + ((0 : Nat) : Int) * 1 = lo := by simp
    have e2 : (((hi - lo).toNat : Nat) : Int) - ((0 : Nat) : Int) = Builtin.Range.rangeSize lo hi 1 := by rw [rangeSize_one]; split <;> omega
    show IsRangeIter _ _ (lo + ((0 : Nat) : Int) * 1) ((((hi - lo).toNat : Nat) : Int) - ((0 : Nat) : Int)) 1
    rw [e1, e2]
    exact Heap.get?_push_size _ rfl
  · have e : b = (s.heap.push { cls := .type "range", data := .fields #[.int lo t, .int hi u, .int 1 v] }).objs.size := by simpa using hb
    subst e
    exact I1.fpOk (Nat.le_refl _) (I1.hok.fresh (Nat.le_refl _))
noncomputable def iRng1 (ta : TA) : TI := fun σ H R => ta σ H fun vs H1 => ∃ j : Int, vs = [.int j] ∧ -(2 ^ 62) ≤ j ∧ j < 2 ^ 62 ∧ R (Itr 0 j.toNat) H1
theorem pi_range1 {a : Expr} {ta : TA} {p pos : Pos} (hg : Gl X "range") (hm : X.mg "range" = none) (ha : PA X [a] ta) (hs : starEach [a] X.env = [(false, eval a X.env)] := by rfl) : PI X tg (.Call (.Name "range" p) [a] [] pos) (iRng1 ta) := by
  intro pins s σ H R I h
  refine Call_ (ld_blt I hg hm boot_range (PyProof.Rows.callWith_type1 (thn (ha pos pins s σ H _ I h) fun us s1 ⟨vs, H1, I1, r1, q1⟩ => ?_) hs rfl))
  obtain ⟨j, e, q1, q2, q⟩ := q1
  subst e
  cases r1 with
  | cons r rr =>
    cases rr
    obtain ⟨t, rfl⟩ := r
    exact call_range_1 (range_it I1 (by omega) (by omega) q1 q2 (by simpa using q))
noncomputable def tFor (wi : TI) (g : TG) (tb : TS) : TS := fun D σ H => wi σ H fun J H1 => ∃ W : Nat → Nat → St → Hp → Prop, (∃ m, W 0 m σ H1) ∧ ∀ i m σ H, W i m σ H →
  (J.stop i H ∧ D.nx σ H) ∨ (J.go i H ∧ ∃ N : St → Hp → Prop, (∀ σ' H', N σ' H' → ∃ m', m' < m ∧ W (i + 1) m' σ' H') ∧ ∀ x H', J.yld i H x H' → g x σ H' fun σ2 H2 => tb { D with nx := N, ct := N, bk := D.nx } σ2 H2)
noncomputable def pinsAt (fp : List Addr) (h : Heap) : List (Addr × Obj) := fp.filterMap fun b => (h.get? b).map fun o => (b, o)
theorem mem_pinsAt {fp : List Addr} {h : Heap} {b : Addr} {o : Obj} (hb : b ∈ fp) (e : h.get? b = some o) : (b, o) ∈ pinsAt fp h := List.mem_filterMap.mpr ⟨b, hb, by rw [e]; rfl⟩
theorem of_pinsAt {fp : List Addr} {h : Heap} {p : Addr × Obj} (hp : p ∈ pinsAt fp h) : p.1 ∈ fp ∧ h.get? p.1 = some p.2 := by
  obtain ⟨b, hb, e⟩ := List.mem_filterMap.mp hp
  cases q : h.get? b with
  | none => rw [q] at e; cases e
  | some o =>
    rw [q] at e
    have e' : (b, o) = p := Option.some.inj e
    subst e'
    exact ⟨hb, q⟩
theorem Inv.pinned {pins : List (Addr × Obj)} {σ : St} {H : Hp} {s : Shared} {fp : List Addr} (I : Inv X pins σ H s) (hf : ∀ b ∈ fp, FpOk X pins H b) (ho : ∀ b ∈ fp, ∃ o, s.heap.get? b = some o ∧ ∀ v, o.data ≠ .cell v) : Inv X (pins ++ pinsAt fp s.heap) σ H s :=
  I.pins_of fun p hp => (List.mem_append.mp hp).elim (fun z => I.pin p (List.mem_append_right _ z)) fun z => by
    obtain ⟨hb, e⟩ := of_pinsAt z
    obtain ⟨f0, f1, f2, _⟩ := hf p.1 hb
    obtain ⟨o, e', d⟩ := ho p.1 hb
    rw [e] at e'; cases e'
    exact ⟨e, f0, f1, f2, d⟩
theorem Inv.unpinned {pins pl : List (Addr × Obj)} {σ : St} {H : Hp} {s : Shared} (I : Inv X (pins ++ pl) σ H s) : Inv X pins σ H s := I.pins_of fun p hp => I.pin p (List.mem_append_right _ (List.mem_append_left _ hp))
theorem ps_for {iter : Expr} {body : List Stmt} {wi : TI} {g : TG} {tb : TS} {pos : Pos} (hp : PassesOwn (model X.prog X.w) X.A X.env X.xe) (hc : X.calm = true) (hi : PI X tg iter wi) (hg : PG X tg g) (hb : PSs X body tb)
    (hs : ∀ x, foldedSetIterable iter X.env x = pure x := by intro _; rfl) : PS X (.For tg iter body [] pos) (tFor wi g tb) := by
  intro pins s σ H D I h
  refine wpAny_For (thn (hi pins s σ H _ I h) fun v s1 h1 => thn h1 fun itv s2 h2 => ?_) hs
  obtain ⟨it, fp, tn, J, H2, e, I2, T, st2, f2, W, ⟨m0, w0⟩, turn⟩ := h2
  subst e
  have stat : ∀ {H' : Hp}, (∀ b ∈ fp, H' b = none) → ∀ b ∈ fp, FpOk X pins H' b := fun hn b hb => ⟨hn b hb, (f2 b hb).2⟩
  refine codeAny_forLoop_any (fun n s' => ∃ i σ' H', Inv X pins σ' H' s' ∧ tn i s'.heap ∧ (∀ b ∈ fp, H' b = none) ∧ W i n σ' H') ?_ m0 ⟨0, σ, H2, I2, st2, fun b hb => (f2 b hb).1, w0⟩
  rintro n s3 ⟨i, σ3, H3, I3, st3, fr3, w3⟩
  rcases turn i n σ3 H3 w3 with ⟨stop, qn⟩ | ⟨go, N, hN, step⟩
  · refine wpAny_passesOwn hp (thn (T.done X rfl rfl rfl hc i pins s3 σ3 H3 X.xe I3 (stat fr3) st3 stop) fun r s4 ⟨hr, I4⟩ => ?_)
    subst hr
    exact wpAny_execs_nil ⟨σ3, H3, I4, qn⟩
  · refine wpAny_passesOwn hp (thn (T.item X rfl rfl rfl hc i pins s3 σ3 H3 X.xe I3 (stat fr3) st3 go) fun r s4 ⟨u, hr, h4⟩ => ?_)
    subst hr
    refine wpAny_passesOwn hp (thn h4 fun _ s5 ⟨x, H5, I5, r5, y5, st5, fr5⟩ => ?_)
    have I5' := I5.pinned (stat fr5) (T.obj _ _ st5)
    refine wpAny_passesOwn hp (thn (hg _ s5 σ3 H5 x u _ I5' r5 (step x H5 y5)) fun _ s6 ⟨σ6, H6, I6, q6⟩ => ?_)
    refine wpAny_passesOwn hp (thn (hb _ s6 σ6 H6 _ I6 q6) fun f s7 q7 => ?_)
    have again : ∀ {σ7 : St} {H7 : Hp}, Inv X (pins ++ pinsAt fp s5.heap) σ7 H7 s7 → N σ7 H7 → ∃ m, m < n ∧ ∃ i σ' H', Inv X pins σ' H' s7 ∧ tn i s7.heap ∧ (∀ b ∈ fp, H' b = none) ∧ W i m σ' H' := fun {σ7 H7} I7 n7 => by
      obtain ⟨m', hm, w7⟩ := hN σ7 H7 n7
      refine ⟨m', hm, i + 1, σ7, H7, I7.unpinned, T.keep _ _ _ st5 fun b hb o e => (I7.pin (b, o) (List.mem_append_right _ (List.mem_append_right _ (mem_pinsAt hb e)))).1, fun b hb => ?_, w7⟩
      obtain ⟨o, e, d⟩ := T.obj _ _ st5 b hb
      exact (I7.pin (b, o) (List.mem_append_right _ (List.mem_append_right _ (mem_pinsAt hb e)))).2.1
    cases f with
    | next => obtain ⟨σ7, H7, I7, n7⟩ := q7; exact again I7 n7
    | cont => obtain ⟨σ7, H7, I7, n7⟩ := q7; exact again I7 n7
    | brk => obtain ⟨σ7, H7, I7, q7⟩ := q7; exact ⟨σ7, H7, I7.unpinned, q7⟩
    | ret v => obtain ⟨x7, σ7, H7, I7, r7, q7⟩ := q7; exact ⟨x7, σ7, H7, I7.unpinned, r7, q7⟩
end
end L2
namespace L2
open PySem PySem.Spec PyProof.Rows
noncomputable abbrev R2 := V → V → Hp → VK → Prop
noncomputable def OpR (X : Cx) (f : Value → Value → Sem Value) (r : R2) : Prop :=
  ∀ (pins : List (Addr × Obj)) (s : Shared) (σ : St) (H : Hp) (x y : V) (v u : Value) (Q : VK), Inv X pins σ H s → RelV x v → RelV y u → r x y H Q →
    wpAny (model X.prog X.w) X.A (f v u) (EP X pins σ Q) X.xe s
noncomputable def CallR (X : Cx) (f : Value) (r : List V → Hp → VK → Prop) : Prop :=
  ∀ (pins : List (Addr × Obj)) (s : Shared) (σ : St) (H : Hp) (xs : List V) (us : List Value) (Q : VK), Inv X pins σ H s → Vals xs us → r xs H Q →
    wpAny (model X.prog X.w) X.A (call f us) (EP X pins σ Q) X.xe s
noncomputable def TruR (X : Cx) (r : V → Hp → (Bool → Hp → Prop) → Prop) : Prop :=
  ∀ (pins : List (Addr × Obj)) (s : Shared) (σ : St) (H : Hp) (x : V) (v : Value) (Q : Bool → Hp → Prop), Inv X pins σ H s → RelV x v → r x H Q →
    wpAny (model X.prog X.w) X.A (truthy v) (TP X pins σ Q) X.xe s
noncomputable def tOp (r : R2) (ta tb : TE) : TE := fun σ H Q => ta σ H fun x H1 => tb σ H1 fun y H2 => r x y H2 Q
noncomputable def rI (C : Int → Int → Prop) (g : Int → Int → V) : R2 := fun x y H Q => ∃ i j, x = .int i ∧ y = .int j ∧ C i j ∧ Q (g i j) H
noncomputable def rI0 (g : Int → Int → V) : R2 := fun x y H Q => ∃ i j, x = .int i ∧ y = .int j ∧ Q (g i j) H
section
variable {X : Cx} {a b c : Expr} {ta tb tc : TE} {pos : Pos}
theorem binT (ha : PE X a ta) (hb : PE X b tb) {pins : List (Addr × Obj)} {s : Shared} {σ : St} {H : Hp} {R : V → V → Hp → Prop} (I : Inv X pins σ H s)
    (h : ta σ H fun x H1 => tb σ H1 fun y H2 => R x y H2) {Q : Value → Shared → Prop} {f : Value → Value → Sem Value}
    (hf : ∀ v u s2 x y H2, Inv X pins σ H2 s2 → RelV x v → RelV y u → R x y H2 → wpAny (model X.prog X.w) X.A (f v u) Q X.xe s2) :
    wpAny (model X.prog X.w) X.A (eval a X.env) (fun v s₁ => wpAny (model X.prog X.w) X.A (eval b X.env) (fun u s₂ => wpAny (model X.prog X.w) X.A (f v u) Q X.xe s₂) X.xe s₁) X.xe s := by
  refine thn (ha pins s σ H _ I h) fun v s1 ⟨x, H1, I1, r1, q1⟩ => ?_
  refine thn (hb pins s1 σ H1 _ I1 q1) fun u s2 ⟨y, H2, I2, r2, q2⟩ => ?_
  exact hf v u s2 x y H2 I2 r1 r2 q2
theorem pe_op {op : Operator} {r : R2} (ho : OpR X (binaryOp op) r) (ha : PE X a ta) (hb : PE X b tb) : PE X (.BinOp a op b pos) (tOp r ta tb) := by
  intro pins s σ H Q I h
  exact wpAny_BinOp (binT ha hb I h fun v u s2 x y H2 I2 rx ry q => ho pins s2 σ H2 x y v u Q I2 rx ry q)
theorem opI {f : Value → Value → Sem Value} {C : Int → Int → Prop} {g : Int → Int → Int}
    (rule : ∀ (i j : Int) (t u : Tok) (s : Shared) (Q : Value → Shared → Prop) (E : Value → Shared → Prop), C i j → Q (.int (g i j) s.toks) { s with toks := s.toks + 1 } → wpAny (model X.prog X.w) X.A (f (.int i t) (.int j u)) Q E s) :
    OpR X f (rI C fun i j => .int (g i j)) := by
  intro pins s σ H x y v u Q I rx ry h
  obtain ⟨i, j, rfl, rfl, hc, q⟩ := h
  obtain ⟨t, rfl⟩ := rx
  obtain ⟨t', rfl⟩ := ry
  exact rule i j t t' s _ _ hc ⟨.int (g i j), H, I.tok _, ⟨_, rfl⟩, q⟩
theorem opI0 {f : Value → Value → Sem Value} {g : Int → Int → Int}
    (rule : ∀ (i j : Int) (t u : Tok) (s : Shared) (Q : Value → Shared → Prop) (E : Value → Shared → Prop), Q (.int (g i j) s.toks) { s with toks := s.toks + 1 } → wpAny (model X.prog X.w) X.A (f (.int i t) (.int j u)) Q E s) :
    OpR X f (rI0 fun i j => .int (g i j)) := by
  intro pins s σ H x y v u Q I rx ry h
  obtain ⟨i, j, rfl, rfl, q⟩ := h
  obtain ⟨t, rfl⟩ := rx
  obtain ⟨t', rfl⟩ := ry
  exact rule i j t t' s _ _ ⟨.int (g i j), H, I.tok _, ⟨_, rfl⟩, q⟩
theorem opB0 {f : Value → Value → Sem Value} {g : Int → Int → Bool}
    (rule : ∀ (i j : Int) (t u : Tok) (s : Shared) (Q : Value → Shared → Prop) (E : Value → Shared → Prop), Q (.bool (g i j)) s → wpAny (model X.prog X.w) X.A (f (.int i t) (.int j u)) Q E s) :
    OpR X f (rI0 fun i j => .bl (g i j)) := by
  intro pins s σ H x y v u Q I rx ry h
  obtain ⟨i, j, rfl, rfl, q⟩ := h
  obtain ⟨t, rfl⟩ := rx
  obtain ⟨t', rfl⟩ := ry
  exact rule i j t t' s _ _ ⟨.bl (g i j), H, I, rfl, q⟩
noncomputable def CDiv (i j : Int) : Prop := 0 < j ∧ j < 1073741824
noncomputable def CMul (i j : Int) : Prop := (-(2 ^ 64) < i ∧ i < 2 ^ 64) ∨ (-(2 ^ 64) < j ∧ j < 2 ^ 64)
theorem CMul.ok {i j : Int} (h : CMul i j) : IntMulOk i j := by
  rcases h with ⟨h1, h2⟩ | ⟨h1, h2⟩
  · exact .of_left (intBits_le_64 h1 h2)
  · exact .of_right (intBits_le_64 h1 h2)
theorem op_add : OpR X (binaryOp .Add) (rI0 fun i j => .int (i + j)) := opI0 fun _ _ _ _ _ _ _ q => add_int q
theorem op_sub : OpR X (binaryOp .Sub) (rI0 fun i j => .int (i - j)) := opI0 fun _ _ _ _ _ _ _ q => sub_int q
theorem op_mul : OpR X (binaryOp .Mult) (rI CMul fun i j => .int (i * j)) := opI fun _ _ _ _ _ _ _ hc q => mul_int q hc.ok
theorem op_fdiv : OpR X (binaryOp .FloorDiv) (rI CDiv fun i j => .int (i / j)) := opI fun i j _ _ _ _ _ hc q => by
  have h1 : (0 : Int) < j := hc.1
  have h2 : j < 1073741824 := hc.2
  exact floordiv_int (by omega) (by rw [Int.fdiv_eq_ediv_of_nonneg i (by omega)]; exact q) (.inl (PyProof.noPylong_small (by omega)))
theorem op_mod : OpR X (binaryOp .Mod) (rI (fun _ j => 0 < j) fun i j => .int (i % j)) := opI fun i j _ _ _ _ _ hc q => by
  have h1 : (0 : Int) < j := hc
  exact mod_int' (by omega) (by rw [Int.fmod_eq_emod_of_nonneg i (by omega)]; exact q)
end
section
variable {X : Cx} {a b c : Expr} {ta tb tc : TE} {pos : Pos}
theorem fin_bl {pins : List (Addr × Obj)} {σ : St} {H : Hp} {s : Shared} {Q : VK} {k k' : Bool} (I : Inv X pins σ H s) (q : Q (.bl k) H) (e : k = k') : EP X pins σ Q (.bool k') s := by
  subst e
  exact ⟨.bl k, H, I, rfl, q⟩
theorem op_lt : OpR X (compareOp .Lt) (rI0 fun i j => .bl (decide (i < j))) := opB0 fun _ _ _ _ _ _ _ q => lt_int q
theorem op_le : OpR X (compareOp .LtE) (rI0 fun i j => .bl (decide (i ≤ j))) := opB0 fun _ _ _ _ _ _ _ q => le_int q
theorem op_gt : OpR X (compareOp .Gt) (rI0 fun i j => .bl (decide (j < i))) := opB0 fun _ _ _ _ _ _ _ q => gt_int q
theorem op_isN : OpR X (compareOp .Is) (fun x y H Q => y = .non ∧ Q (.bl (decide (x = .non))) H) := by
  intro pins s σ H x y v u Q I rx ry h
  obtain ⟨rfl, q⟩ := h
  cases ry
  refine is_none_gen (fin_bl I q ?_)
  cases x <;> first
    | (cases rx; rfl)
    | (obtain ⟨t, rfl⟩ := rx; rfl)
theorem OpR.or {f : Value → Value → Sem Value} {r r' : R2} (h : OpR X f r) (h' : OpR X f r') : OpR X f (fun x y H Q => r x y H Q ∨ r' x y H Q) := by
  intro pins s σ H x y v u Q I rx ry q
  rcases q with q | q
  · exact h pins s σ H x y v u Q I rx ry q
  · exact h' pins s σ H x y v u Q I rx ry q
theorem nomark (b : Expr) {op : CmpOp} (h : op ≠ .In := by decide) (h2 : op ≠ .NotIn := by decide) : behindInMarks op b = false := by
  have e1 : (op == CmpOp.In) = false := by cases op <;> first | rfl | exact absurd rfl h
  have e2 : (op == CmpOp.NotIn) = false := by cases op <;> first | rfl | exact absurd rfl h2
  cases b <;> simp [behindInMarks, e1, e2]
theorem pe_cmpR {op : CmpOp} {r : R2} (ho : OpR X (compareOp op) r) (ha : PE X a ta) (hb : PE X b tb) (hm : behindInMarks op b = false) : PE X (.Compare a [op] [b] pos) (tOp r ta tb) := by
  intro pins s σ H Q I h
  exact wpAny_Compare1 (binT ha hb I h fun v u s2 x y H2 I2 rx ry q => ho pins s2 σ H2 x y v u Q I2 rx ry q) hm
noncomputable def tTest (t : TE) : TT := fun σ H Q => t σ H fun x H' => ∃ k, x = .bl k ∧ Q k H'
theorem pt_cmpR {op : CmpOp} {r : R2} (ho : OpR X (compareOp op) r) (ha : PE X a ta) (hb : PE X b tb) (hm : behindInMarks op b = false) : PT X (.Compare a [op] [b] pos) (tTest (tOp r ta tb)) := by
  intro pins s σ H Q I h
  refine wpAny_isTrue_Compare1 (thn (ha pins s σ H _ I h) fun v s1 ⟨x, H1, I1, r1, q1⟩ => thn (hb pins s1 σ H1 _ I1 q1) fun u s2 ⟨y, H2, I2, r2, q2⟩ =>
    thn (ho pins s2 σ H2 x y v u _ I2 r1 r2 q2) fun c s3 ⟨z, H3, I3, r3, k, e, q3⟩ => ?_) hm
  subst e
  cases r3
  exact wpAny_truthy_bool ⟨H3, I3, q3⟩
noncomputable def tChain (r r' : R2) (ta tb tc : TE) : TE := fun σ H Q => ta σ H fun x H1 => tb σ H1 fun y H2 => r x y H2 fun z H3 => ∃ k, z = .bl k ∧
  (if k = true then tc σ H3 fun w' H4 => r' y w' H4 Q else Q (.bl false) H3)
theorem pe_chain {op op' : CmpOp} {r r' : R2} (ho : OpR X (compareOp op) r) (ho' : OpR X (compareOp op') r') (ha : PE X a ta) (hb : PE X b tb) (hc : PE X c tc)
    (hm : lastMarks [op, op'] [b, c] = false := by with_unfolding_all rfl) : PE X (.Compare a [op, op'] [b, c] pos) (tChain r r' ta tb tc) := by
  intro pins s σ H Q I h
  refine Compare_chain (thn (ha pins s σ H _ I h) fun v s1 ⟨x, H1, I1, r1, q1⟩ => chain_link (thn (hb pins s1 σ H1 _ I1 q1) fun u s2 ⟨y, H2, I2, r2, q2⟩ =>
    thn (ho pins s2 σ H2 x y v u _ I2 r1 r2 q2) fun d s3 ⟨z, H3, I3, r3, k, e, q3⟩ => ?_)) hm
  subst e
  cases r3
  refine wpAny_truthy_bool ?_
  cases k with
  | false => exact ite_ff ⟨.bl false, H3, I3, rfl, q3⟩
  | true => exact ite_tt (chain_last (thn (hc pins s3 σ H3 _ I3 q3) fun w' s4 ⟨z', H4, I4, r4, q4⟩ => ho' pins s4 σ H4 y z' u w' Q I4 r2 r4 q4))
noncomputable def TruV (K : PySem.W.Frag) (x : V) (H : Hp) (k : Bool) : Prop :=
  match x with
  | .non => k = false
  | .bl b => k = b
  | .int i => k = (i != 0)
  | .str y => y.length ≤ sizeLine ∧ k = ((y.length : Int) != 0)
  | .byt y => y.size ≤ sizeLine ∧ k = ((y.size : Int) != 0)
  | .ref p => (∃ xs, SqL K H p xs ∧ k = !xs.isEmpty) ∨ (∃ xs, SqT K H p xs ∧ k = !xs.isEmpty) ∨ ∃ kvs, H p = some (.dK kvs) ∧ k = !kvs.isEmpty
  | _ => False
theorem isEmpty_kv {κ : Type} {kvs : List (κ × V)} {vs : List (κ × Value)} (r : KV kvs vs) : (!vs.isEmpty) = !kvs.isEmpty := by
  cases r <;> rfl
theorem isEmpty_of {xs : List V} {its : List Value} (r : Vals xs its) : (!its.toArray.isEmpty) = !xs.isEmpty := by
  cases r <;> simp
theorem line63 : (sizeLine : Nat) < 2 ^ 63 := by rw [sizeLine_eq]; decide
theorem tru_ok : TruR X (fun x H Q => ∃ k, TruV X.K x H k ∧ Q k H) := by
  intro pins s σ H x v Q I rx h
  obtain ⟨k, e, q⟩ := h
  have hl := line63
  have hs : sizeLine = 16777216 := sizeLine_eq
  cases x with
  | non =>
    cases rx
    have e' : k = false := e
    subst e'
    exact truthy_none ⟨H, I, q⟩
  | bl b =>
    cases rx
    have e' : k = b := e
    subst e'
    exact wpAny_truthy_bool ⟨H, I, q⟩
  | int i =>
    obtain ⟨t, rfl⟩ := rx
    have e' : k = (i != 0) := e
    subst e'
    exact PySem.P.truthy_int ⟨H, I, q⟩
  | str y =>
    obtain ⟨t, rfl⟩ := rx
    obtain ⟨hy, e'⟩ : y.length ≤ sizeLine ∧ k = ((y.length : Int) != 0) := e
    subst e'
    exact PySem.P.truthy_str (by omega) ⟨H, I.tok _, q⟩
  | byt y =>
    obtain ⟨t, rfl⟩ := rx
    obtain ⟨hy, e'⟩ : y.size ≤ sizeLine ∧ k = ((y.size : Int) != 0) := e
    subst e'
    exact PySem.W.truthy_bytes (by omega) ⟨H, I.tok _, q⟩
  | ref p =>
    cases rx
    have e' : (∃ xs, SqL X.K H p xs ∧ k = !xs.isEmpty) ∨ (∃ xs, SqT X.K H p xs ∧ k = !xs.isEmpty) ∨ ∃ kvs, H p = some (.dK kvs) ∧ k = !kvs.isEmpty := e
    rcases e' with ⟨xs, hx, e'⟩ | ⟨xs, hx, e'⟩ | ⟨kvs, hx, e'⟩
    · subst e'
      obtain ⟨its, r, pl, hz⟩ := I.list hx
      have hlen := r.length
      exact wpAny_truthy_list pl.isList (by simp only [List.size_toArray]; omega) ⟨H, I.tok _, by rw [isEmpty_of r]; exact q⟩
    · subst e'
      obtain ⟨its, r, pl, hz⟩ := I.tuple hx
      have hlen := r.length
      exact truthy_tuple pl (by simp only [List.size_toArray]; omega) ⟨H, I.tok _, by rw [isEmpty_of r]; exact q⟩
    · subst e'
      obtain ⟨hz, hS, vs, r, m⟩ : kvs.length ≤ sizeLine ∧ (p == sysModules) = false ∧ ∃ vs, KV kvs vs ∧ s.heap.DictOf (mixKind X.prog X.w) p vs := I.hok p _ hx
      have hlen : kvs.length = vs.length := Paired.length r
      exact wpAny_truthy_dict hS m (by omega) ⟨H, I.tok _, by rw [isEmpty_kv r]; exact q⟩
  | _ => exact (show False from e).elim
theorem pt_truth (ha : PE X a ta) (he : ∀ whole, isTrue a X.env whole = (do let v ← whole; standAt a.pos; holding [v] (truthy v))) :
    PT X a (fun σ H Q => ta σ H fun x H' => ∃ k, TruV X.K x H' k ∧ Q k H') := by
  intro pins s σ H Q I h
  exact isTrue_plain (thn (ha pins s σ H _ I h) fun v s1 ⟨x, H1, I1, r1, q1⟩ => tru_ok pins s1 σ H1 x v Q I1 r1 q1) (he _)
theorem vals1 {x : V} {us : List Value} (r : Vals [x] us) : ∃ u, us = [u] ∧ RelV x u := by
  cases r with
  | cons r1 r2 => cases r2; exact ⟨_, rfl, r1⟩
theorem vals2 {x y : V} {us : List Value} (r : Vals [x, y] us) : ∃ u w', us = [u, w'] ∧ RelV x u ∧ RelV y w' := by
  cases r with
  | cons r1 r2 =>
    cases r2 with
    | cons r3 r4 => cases r4; exact ⟨_, _, rfl, r1, r3⟩
end
end L2
namespace L2
open PySem PySem.Spec PyProof.Rows
structure ObjM (h : Heap) (x dx C : Addr) (mA : Str → Option Value) : Prop where
  obj : h.get? x = some (PySem.W.instObj C dx)
  ns : h.Ns1 dx mA
  ne : dx ≠ x
theorem lookIn_ns {h : Heap} {dx : Addr} {mA : Str → Option Value} (n : h.Ns1 dx mA) : ∃ od, h.get? dx = some od ∧ ∀ name, PySem.W.lookIn name od = some (mA name) := by
  obtain ⟨o, es, ep, ho, hd, hk, _, hm⟩ := n
  refine ⟨o, ho, fun name => ?_⟩
  have e := hm name
  unfold nsFind findBy at e
  rw [← Array.find?_toList] at e
  unfold PySem.W.lookIn
  rw [hd]
  dsimp only
  split
  · rename_i y q
    rw [q] at e
    exact congrArg some e
  · rename_i q
    rw [q] at e
    have a : es.toList.any (·.refKey) = false := by
      rw [List.any_eq_false]
      intro y hy
      obtain ⟨z, t, hkey⟩ := hk y (Array.mem_toList_iff.mp hy)
      simp [DictEntry.refKey, hkey]
    have a' : ¬ es.toList.any (·.refKey) = true := by rw [a]; exact Bool.false_ne_true
    rw [if_neg a']
    exact congrArg some e
theorem ObjM.look {h : Heap} {x dx C : Addr} {mA : Str → Option Value} (I : ObjM h x dx C mA) : ∃ od, PySem.W.InstAt h x (PySem.W.instObj C dx) C (some od) ∧ ∀ name, PySem.W.lookIn name od = some (mA name) :=
  let ⟨od, ho, hl⟩ := lookIn_ns I.ns
  ⟨od, ⟨I.obj, rfl, rfl, ho⟩, hl⟩
section
variable {prog : Program} {w : World} {A : Around} {E : Value → Shared → Prop} {s : Shared} {K : PySem.W.Frag} {x dx C f : Addr} {mA : Str → Option Value} {name : Str} {v : Value}
theorem get_map {expr : Bool} {Q : Value → Shared → Prop} (X : K.In s.heap) (I : ObjM s.heap x dx C mA) (hg : PySem.W.plainGet K C name = true) (hh : PySem.W.hasDictIn K C = true)
    (ha : PySem.W.findIn K (.ref C) name = some none) (hv : mA name = some v) (hv' : PySem.W.handedIn v = true) (h : Q v { s with toks := s.toks + 1 }) :
    wpAny (model prog w) A (getAttr (.ref x) name expr) Q E s := by
  obtain ⟨od, J, hl⟩ := I.look
  exact PySem.W.get_value X J (PySem.W.plainGet_of hg).1 (PySem.W.findObj_own hh ha rfl (by rw [hl, hv])) hv' h
theorem get_meth {pl : Sem Bool} {Q : Value × List Value → Shared → Prop} (X : K.In s.heap) (I : ObjM s.heap x dx C mA) (hg : PySem.W.plainGet K C name = true)
    (hf : PySem.W.findIn K (.ref C) name = some (some (.ref f))) (ht : PySem.W.isFn K (.ref f) = true) (hv : mA name = none) (h : Q (.ref f, [.ref x]) s) :
    wpAny (model prog w) A (getMethod (.ref x) name pl) Q E s := by
  obtain ⟨od, J, hl⟩ := I.look
  exact PySem.W.method_fn X J (PySem.W.plainGet_of hg).1 (PySem.W.plainGet_of hg).2 hf (beq_iff_eq.mp ht) (by show (PySem.W.lookIn name od).map (·.isSome) = some false; rw [hl, hv]; rfl) h
theorem set_map {ns : List Str} {Q : Unit → Shared → Prop} (X : K.In s.heap) (I : ObjM s.heap x dx C mA)
    (hs : PySem.W.findIn K (.ref C) "__setattr__" = some (some (.builtin "object.__setattr__"))) (hp : PySem.W.plainOver K C = true) (ht : PySem.W.takerIn K C name = some none) (hh : PySem.W.hasDictIn K C = true)
    (hw : PySem.Within mA ns) (hsz : ns.length ≤ sizeLine)
    (h : ∀ h', ObjM h' x dx C (fun y => if y = name then some v else mA y) → Heap.SameBut dx s.heap h' → Q () { s with heap := h', toks := s.toks + 2 }) :
    wpAny (model prog w) A (setAttr (.ref x) name v) Q E s := by
  obtain ⟨od, J, hl⟩ := I.look
  refine PySem.W.set_plain X J hs (PySem.W.osa_open (s := { s with toks := s.toks + 1 }) (r := none) X J hp ht fun b => ?_)
  obtain ⟨cd, hc, hd'⟩ := PySem.W.any_some hh
  have hx : s.heap.get? x = some ⟨.ref C, some dx, .plain, #[]⟩ := I.obj
  refine wpAny_bind (wpAny_pure (wpAny_bind (wpAny_bind (wpAny_loadPart hx (wpAny_bind (PySem.W.Looks.here (s := { s with toks := s.toks + 1 }) (PySem.W.looks_clsIn X hc) ?_))))))
  rw [hd']
  refine wpAny_pure (a := some dx) (wpAny_bind (wpAny_pure (wpAny_bind ?_)))
  refine wpAny_nsSet1 (s := { s with toks := s.toks + 1 }) I.ns fun h' hn2 hs2 => ?_
  obtain ⟨oD, esD, epD, hoD, hdD, hcD⟩ := hn2.count (PySem.Within.cons name v hw)
  refine wpAny_bind (wpAny_lookBehind hoD (by rw [hdD]; exact pastItsLine_dict (Nat.le_trans hcD (by rw [List.length_cons]; omega))) ?_)
  exact wpAny_pure (h _ ⟨(hs2.2 _ (Ne.symm I.ne)).trans I.obj, hn2, I.ne⟩ hs2)
theorem make_map {R : Result → Shared → Prop} {vs : List Value} {kw : List (Str × Value)} (X : K.In s.heap) (hm : PySem.W.makesIn K C = true)
    (hi : PySem.W.findIn K (.ref C) "__init__" = some (some (.ref f))) (hf : PySem.W.typeIn K (.ref f) = some (.type "function"))
    (h : codeAny (model prog w) (A.under (.builtin "type.__call__" ⟨.ref C :: vs, kw⟩)) (.call (.ref f) ⟨.ref (s.heap.objs.size + 1) :: vs, kw⟩) (PySem.W.InitBack (s.heap.objs.size + 1) R)
      { s with heap := (s.heap.push PySem.W.emptyDict).push (PySem.W.instObj C s.heap.objs.size) }) :
    codeAny (model prog w) A (.call (.ref C) ⟨vs, kw⟩) R s := by
  obtain ⟨hh, g, d, t, os⟩ := s
  exact PySem.W.make_core (PySem.W.makes_of X hm) (PySem.W.looks_findIn X hi) (fun self => PySem.W.bind_fn X self hf) (.inl rfl) h
end
noncomputable def putF (f : Str) (v : V) : List (Str × V) → List (Str × V)
  | [] => [(f, v)]
  | (g, x) :: r => if g = f then (g, v) :: r else (g, x) :: putF f v r
theorem lookup_putF (f g : Str) (v : V) : ∀ fs : List (Str × V), (putF f v fs).lookup g = if g = f then some v else fs.lookup g
  | [] => by
    show List.lookup g [(f, v)] = _
    by_cases h : g = f
    · have hb : (g == f) = true := beq_iff_eq.mpr h
      simp only [List.lookup, hb, if_pos h]
    · have hb : (g == f) = false := beq_eq_false_iff_ne.mpr h
      simp only [List.lookup, hb, if_neg h]
  | (k, x) :: r => by
    have ih := lookup_putF f g v r
    rw [show putF f v ((k, x) :: r) = (if k = f then (k, v) :: r else (k, x) :: putF f v r) from rfl]
    by_cases hk : k = f
    · rw [if_pos hk]
      by_cases h : g = k
      · have hb : (g == k) = true := beq_iff_eq.mpr h
        simp only [List.lookup, hb, if_pos (h.trans hk)]
      · have hb : (g == k) = false := beq_eq_false_iff_ne.mpr h
        simp only [List.lookup, hb, if_neg (fun e : g = f => h (e.trans hk.symm))]
    · rw [if_neg hk]
      by_cases h : g = k
      · have hb : (g == k) = true := beq_iff_eq.mpr h
        simp only [List.lookup, hb, if_neg (fun e : g = f => hk (h.symm.trans e))]
      · have hb : (g == k) = false := beq_eq_false_iff_ne.mpr h
        simp only [List.lookup, hb]
        exact ih
theorem keys_putF (f : Str) (v : V) : ∀ fs : List (Str × V), f ∈ (putF f v fs).map (·.1) ∧ ∀ g, g ∈ fs.map (·.1) → g ∈ (putF f v fs).map (·.1)
  | [] => ⟨by simp [putF], fun g h => by simp at h⟩
  | (k, x) :: r => by
    obtain ⟨i1, i2⟩ := keys_putF f v r
    rw [show putF f v ((k, x) :: r) = (if k = f then (k, v) :: r else (k, x) :: putF f v r) from rfl]
    by_cases hk : k = f
    · rw [if_pos hk]
      subst hk
      exact ⟨by simp, fun g h => by simpa using h⟩
    · rw [if_neg hk]
      refine ⟨?_, fun g h => ?_⟩
      · rw [List.map_cons]
        exact List.mem_cons_of_mem _ i1
      · rw [List.map_cons] at h ⊢
        rcases List.mem_cons.mp h with e | e
        · exact List.mem_cons.mpr (.inl e)
        · exact List.mem_cons_of_mem _ (i2 g e)
theorem length_putF (f : Str) (v : V) : ∀ fs : List (Str × V), (putF f v fs).length ≤ fs.length + 1
  | [] => by simp [putF]
  | (k, x) :: r => by
    have ih := length_putF f v r
    rw [show putF f v ((k, x) :: r) = (if k = f then (k, v) :: r else (k, x) :: putF f v r) from rfl]
    by_cases hk : k = f
    · rw [if_pos hk, List.length_cons, List.length_cons]; omega
    · rw [if_neg hk, List.length_cons, List.length_cons]; omega
theorem RelO.some_of {v : V} {o : Option Value} (r : RelO (some v) o) : ∃ u, o = some u ∧ RelV v u := by
  cases o with
  | none => exact (show False from r).elim
  | some u => exact ⟨u, rfl, r⟩
theorem RelO.none_of {o : Option Value} (r : RelO none o) : o = none := by
  cases o with
  | none => rfl
  | some u => exact (show False from r).elim
theorem handed_of {v : V} {u : Value} (r : RelV v u) : PySem.W.handedIn u = true := by
  cases v with
  | non => cases (show u = Value.none from r); rfl
  | bl b => cases (show u = Value.bool b from r); rfl
  | int i => obtain ⟨t, e⟩ := (show ∃ t, u = Value.int i t from r); cases e; rfl
  | str x => obtain ⟨t, e⟩ := (show ∃ t, u = Value.str x t from r); cases e; rfl
  | byt b => obtain ⟨t, e⟩ := (show ∃ t, u = Value.bytes b t from r); cases e; rfl
  | flt b => obtain ⟨t, e⟩ := (show ∃ t, u = Value.float b t from r); cases e; rfl
  | ref a => cases (show u = Value.ref a from r); rfl
  | ty n => cases (show u = Value.type n from r); rfl
section
variable {P : Program} {w : World} {H H' : Hp} {h h' : Heap} {a C dx : Addr} {fs fs' : List (Str × V)}
theorem ins_get (hok : HOk P w H h) (e : H a = some (.ins C dx fs)) : ∃ mA, ObjM h a dx C mA ∧ (∀ f, RelO (fs.lookup f) (mA f)) ∧ PySem.Within mA (fs.map (·.1)) ∧ fs.length ≤ 1000 ∧ H dx = some (.own a) := by
  obtain ⟨d, z, ne, ob, mA, n, r, q⟩ := (show ObjOk P w H h a (.ins C dx fs) from hok a _ e)
  exact ⟨mA, ⟨ob, n, ne⟩, r, q, z, d⟩
end
structure Cls (K : PySem.W.Frag) (C : Addr) : Prop where
  pg : PySem.W.plainGet K C Str.empty = true
  hd : PySem.W.hasDictIn K C = true
  po : PySem.W.plainOver K C = true
  sa : PySem.W.findIn K (.ref C) "__setattr__" = some (some (.builtin "object.__setattr__"))
theorem Cls.get {K : PySem.W.Frag} {C : Addr} (c : Cls K C) (f : Str) : PySem.W.plainGet K C f = true := c.pg
noncomputable def NoAttr (K : PySem.W.Frag) (C : Addr) (f : Str) : Prop := PySem.W.findIn K (.ref C) f = some none
theorem NoAttr.taker {K : PySem.W.Frag} {C : Addr} {f : Str} (n : NoAttr K C f) : PySem.W.takerIn K C f = some none := by
  unfold PySem.W.takerIn
  rw [show PySem.W.findIn K (.ref C) f = some none from n]
  rfl
structure Meth (K : PySem.W.Frag) (C : Addr) (m : Str) (f : Addr) : Prop where
  at_ : PySem.W.findIn K (.ref C) m = some (some (.ref f))
  fn : PySem.W.isFn K (.ref f) = true
  kp : PySem.W.keepIn K (.ref f) = true
section
variable {X : Cx} {pins : List (Addr × Obj)} {σ : St} {H : Hp} {s : Shared} {a C dx : Addr} {fs : List (Str × V)} {f : Str} {v : V} {A : Around} {E : Value → Shared → Prop}
theorem getattr_ok {b : Bool} {Q : Value → Shared → Prop} (I : Inv X pins σ H s) (e : H a = some (.ins C dx fs)) (c : Cls X.K C) (n : NoAttr X.K C f) (l : fs.lookup f = some v)
    (h : ∀ u s', Inv X pins σ H s' → RelV v u → Q u s') : wpAny (model X.prog X.w) A (getAttr (.ref a) f b) Q E s := by
  obtain ⟨mA, O, r, _, _, _⟩ := ins_get I.hok e
  obtain ⟨u, hu, ru⟩ := RelO.some_of (v := v) (o := mA f) (by rw [← l]; exact r f)
  exact get_map I.kIn O (c.get f) c.hd n hu (handed_of ru) (h u _ (I.tok _) ru)
theorem getmeth_ok {m : Str} {g : Addr} {pl : Sem Bool} {Q : Value × List Value → Shared → Prop} (I : Inv X pins σ H s) (e : H a = some (.ins C dx fs)) (c : Cls X.K C) (k : Meth X.K C m g) (l : fs.lookup m = none)
    (h : Q (.ref g, [.ref a]) s) : wpAny (model X.prog X.w) A (getMethod (.ref a) m pl) Q E s := by
  obtain ⟨mA, O, r, _, _, _⟩ := ins_get I.hok e
  have hn : mA m = none := RelO.none_of (by rw [← l]; exact r m)
  exact get_meth I.kIn O (c.get m) k.at_ k.fn hn h
theorem setattr_ok {y : V} {u : Value} {Q : Unit → Shared → Prop} (I : Inv X pins σ H s) (e : H a = some (.ins C dx fs)) (c : Cls X.K C) (n : NoAttr X.K C f) (hl : fs.length < 1000) (ry : RelV y u)
    (h : ∀ s', Inv X pins σ (upd H a (.ins C dx (putF f y fs))) s' → Q () s') : wpAny (model X.prog X.w) A (setAttr (.ref a) f u) Q E s := by
  obtain ⟨mA, O, r, wi, _, ho⟩ := ins_get I.hok e
  have hz : (fs.map (·.1)).length ≤ sizeLine := by rw [List.length_map, sizeLine_eq]; omega
  refine set_map I.kIn O c.sa c.po n.taker c.hd wi hz fun h' O' sb => h _ ?_
  have hd : ∃ o, h'.get? dx = some o := let ⟨o, _, _, e', _⟩ := O'.ns; ⟨o, e'⟩
  refine I.write (x := a) (e := dx) (by rw [e]; exact True.intro) (.inr ho) (fun b q hb z => (sb.2 b hb).trans z) hd ?_
  refine ⟨by rw [upd_ne O.ne]; exact ho, ?_, O.ne, O'.obj, _, O'.ns, fun g => ?_, fun g hg => ?_⟩
  · have := length_putF f y fs; omega
  · show RelO ((putF f y fs).lookup g) (if g = f then some u else mA g)
    rw [lookup_putF]
    by_cases q : g = f
    · rw [if_pos q, if_pos q]; exact ry
    · rw [if_neg q, if_neg q]; exact r g
  · by_cases q : g = f
    · rw [q]; exact (keys_putF f y fs).1
    · refine (keys_putF f y fs).2 g (wi g fun z => hg ?_)
      show (if g = f then some u else mA g) = none
      rw [if_neg q]; exact z
theorem Inv.made (I : Inv X pins σ H s) : Inv X pins σ (upd (upd H s.heap.objs.size (.own (s.heap.objs.size + 1))) (s.heap.objs.size + 1) (.ins C s.heap.objs.size []))
    { s with heap := (s.heap.push PySem.W.emptyDict).push (PySem.W.instObj C s.heap.objs.size) } := by
  have e1 : (s.heap.push PySem.W.emptyDict).get? s.heap.objs.size = some PySem.W.emptyDict := Heap.get?_push_size s.heap rfl
  have e2 : ((s.heap.push PySem.W.emptyDict).push (PySem.W.instObj C s.heap.objs.size)).get? (s.heap.objs.size + 1) = some (PySem.W.instObj C s.heap.objs.size) := by
    have := Heap.get?_push_size (s.heap.push PySem.W.emptyDict) (o := PySem.W.instObj C s.heap.objs.size) rfl
    rwa [Heap.size_push] at this
  have e3 : (s.heap.push PySem.W.emptyDict).Ns s.heap.objs.size (fun _ => none) := ⟨PySem.W.emptyDict, #[], _, e1, rfl, (fun e he => absurd he (by simp)), fun _ => rfl⟩
  have I1 := I.laid (a := s.heap.objs.size) (o := .own (s.heap.objs.size + 1)) (h' := s.heap.push PySem.W.emptyDict) (t' := s.toks) (fun b u q => Heap.get?_push_of_some _ q) (Nat.le_refl _) ⟨_, e1⟩
  refine I1.laid (a := s.heap.objs.size + 1) (o := .ins C s.heap.objs.size []) (t' := s.toks) (fun b u q => Heap.get?_push_of_some _ q) (Nat.le_of_eq (Heap.size_push _ _)) ?_
  have ne : s.heap.objs.size ≠ s.heap.objs.size + 1 := Nat.ne_of_lt (Nat.lt_succ_self _)
  refine ⟨by rw [upd_ne ne, upd_same], Nat.zero_le _, ne, e2, fun _ => none, (Heap.Ns1.of_empty e3).at fun o q => Heap.get?_push_of_some _ q, fun _ => True.intro, fun y hy => absurd rfl hy⟩
theorem attr_of {prog : Program} {w : World} {env : Env} {e : Expr} {f : Str} {pos : Pos} {s : Shared} {Q : Value → Shared → Prop} (hb : attributeBase e f env (eval e env) = eval e env)
    (h : wpAny (model prog w) A (eval e env) (fun o s₁ => wpAny (model prog w) A (getAttr o f true) Q E s₁) E s) : wpAny (model prog w) A (eval (.Attribute e f pos) env) Q E s :=
  Attribute_any_ h (by rw [arm_eval_Attribute, hb])
end
noncomputable def tFld (K : PySem.W.Frag) (ta : TE) (f : Str) : TE := fun σ H Q => ta σ H fun x H1 => ∃ a C dx fs v, x = .ref a ∧ H1 a = some (.ins C dx fs) ∧ Cls K C ∧ NoAttr K C f ∧ fs.lookup f = some v ∧ Q v H1
noncomputable def sFld (K : PySem.W.Frag) (ta tv : TE) (f : Str) : TS := fun D σ H => tv σ H fun y H1 => ta σ H1 fun x H2 => ∃ a C dx fs, x = .ref a ∧ H2 a = some (.ins C dx fs) ∧ Cls K C ∧ NoAttr K C f ∧ fs.length < 1000 ∧
  D.nx σ (upd H2 a (.ins C dx (putF f y fs)))
section
variable {X : Cx} {o e value : Expr} {f : Str} {pos pos' tpos : Pos} {ta tv : TE}
theorem pe_fld (he : PE X e ta) (hb : attributeBase e f X.env (eval e X.env) = eval e X.env) : PE X (.Attribute e f pos) (tFld X.K ta f) := by
  intro pins s σ H Q I h
  refine attr_of hb (thn (he pins s σ H _ I h) fun u s1 ⟨x, H1, I1, rx, a, C, dx, fs, v, ex, ea, c, n, l, q⟩ => ?_)
  subst ex
  obtain rfl : u = Value.ref a := rx
  exact getattr_ok I1 ea c n l fun u' s2 I2 ru => ⟨v, H1, I2, ru, q⟩
theorem ps_fld (ha : PE X o ta) (hv : PE X value tv) (hs : swapsWith value (some (.Attribute o f pos')) pos.line X.env = pure false) : PS X (.Assign [.Attribute o f pos'] value pos) (sFld X.K ta tv f) := by
  intro pins s σ H D I h
  refine plainObj_wpAny_Assign_Attribute (thn (hv pins s σ H _ I h) fun u s1 ⟨y, H1, I1, ry, q⟩ => thn (ha pins s1 σ H1 _ I1 q) fun ov s2 ⟨x, H2, I2, rx, a, C, dx, fs, ex, ea, c, n, l, q2⟩ => ?_) hs
  subst ex
  obtain rfl : ov = Value.ref a := rx
  exact setattr_ok I2 ea c n l ry fun s3 I3 => ⟨σ, _, I3, q2⟩
end
section
variable {X : Cx} {pins : List (Addr × Obj)} {σ : St} {H : Hp} {s : Shared} {A : Around} {E : Value → Shared → Prop} {Q : Value → Shared → Prop} {c : Value} {b : Bool}
inductive TyOf (K : PySem.W.Frag) (H : Hp) : V → Value → Prop where
  | non : TyOf K H .non (.type "NoneType")
  | bl (x : Bool) : TyOf K H (.bl x) (.type "bool")
  | int (i : Int) : TyOf K H (.int i) (.type "int")
  | str (x : Str) : TyOf K H (.str x) (.type "str")
  | flt (x : UInt64) : TyOf K H (.flt x) (.type "float")
  | lst {a : Addr} {xs : List V} (e : H a = some (.lst xs)) : TyOf K H (.ref a) (.type "list")
  | frz {a : Addr} {o : Obj} {xs : List V} (e : H a = some (.frz o (.lst xs))) : TyOf K H (.ref a) (.type "list")
  | tup {a : Addr} {xs : List V} (e : H a = some (.tup xs)) : TyOf K H (.ref a) (.type "tuple")
  | dK {a : Addr} {kvs : List (Key × V)} (e : H a = some (.dK kvs)) : TyOf K H (.ref a) (.type "dict")
  | dT {a : Addr} {kvs : List (List Key × V)} (e : H a = some (.dT kvs)) : TyOf K H (.ref a) (.type "dict")
  | ins {a C dx : Addr} {fs : List (Str × V)} (e : H a = some (.ins C dx fs)) (cl : Cls K C) (ha : PySem.W.findIn K (.ref C) "__class__" = some (some (.builtin "object.__class__")))
      (hn : PySem.W.specialIn K (.builtin "object.__class__") "__get__" = some (some (.builtin "getset_descriptor.__get__"))) (htk : PySem.W.takesIn K (.builtin "object.__class__") = some true)
      (hm : PySem.W.mroIn K C (.type "object") = some true) : TyOf K H (.ref a) (.ref C)
theorem isinst_ok {x : V} {u t : Value} (I : Inv X pins σ H s) (rx : RelV x u) (ty : TyOf X.K H x t) (e : PySem.W.kitOne X.K t c = some b) (h : ∀ tk, Q (.bool b) { s with toks := tk }) :
    wpAny (model X.prog X.w) A (call (.builtin "isinstance") [u, c]) Q E s := by
  cases ty with
  | non => cases (show u = Value.none from rx); exact PySem.W.kia_one PySem.W.kitx_none I.kIn True.intro e (fun z => nomatch z) h
  | bl y => cases (show u = Value.bool y from rx); exact PySem.W.kia_one PySem.W.kitx_bool I.kIn True.intro e (fun z => nomatch z) h
  | int i => obtain ⟨t, q⟩ := (show ∃ t, u = Value.int i t from rx); cases q; exact PySem.W.kia_one PySem.W.kitx_int I.kIn True.intro e (fun z => nomatch z) h
  | str y => obtain ⟨t, q⟩ := (show ∃ t, u = Value.str y t from rx); cases q; exact PySem.W.kia_one PySem.W.kitx_str I.kIn True.intro e (fun z => nomatch z) h
  | flt y => obtain ⟨t, q⟩ := (show ∃ t, u = Value.float y t from rx); cases q; exact PySem.W.kia_one PySem.W.kitx_float I.kIn True.intro e (fun z => nomatch z) h
  | @lst a xs ea =>
    cases (show u = Value.ref a from rx)
    obtain ⟨_, _, n, _, h1⟩ := (show ObjOk X.prog X.w H s.heap a (.lst xs) from I.hok a _ ea)
    exact PySem.W.kia_one PySem.W.kitx_list I.kIn ⟨_, h1, rfl⟩ e (fun z => nomatch z) h
  | @frz a ob xs ea =>
    cases (show u = Value.ref a from rx)
    obtain ⟨_, _, _, n, _, h1⟩ := (show ObjOk X.prog X.w H s.heap a (.frz ob (.lst xs)) from I.hok a _ ea)
    exact PySem.W.kia_one PySem.W.kitx_list I.kIn ⟨_, h1, rfl⟩ e (fun z => nomatch z) h
  | @tup a xs ea =>
    cases (show u = Value.ref a from rx)
    obtain ⟨_, _, _, p⟩ := (show ObjOk X.prog X.w H s.heap a (.tup xs) from I.hok a _ ea)
    obtain ⟨o, h1, h2, _⟩ := p
    exact PySem.W.kia_one PySem.W.kitx_tuple I.kIn ⟨o, h1, h2⟩ e (fun z => nomatch z) h
  | @dK a kvs ea =>
    cases (show u = Value.ref a from rx)
    obtain ⟨_, _, vs, _, p⟩ := (show ObjOk X.prog X.w H s.heap a (.dK kvs) from I.hok a _ ea)
    obtain ⟨o, es, ep, h1, h2, _⟩ := p
    exact PySem.W.kia_one PySem.W.kitx_dict I.kIn ⟨o, h1, h2.1⟩ e (fun z => nomatch z) h
  | @dT a kvs ea =>
    cases (show u = Value.ref a from rx)
    obtain ⟨_, _, xs, _, o, es, ep, h1, h2, _⟩ := (show ObjOk X.prog X.w H s.heap a (.dT kvs) from I.hok a _ ea)
    exact PySem.W.kia_one PySem.W.kitx_dict I.kIn ⟨o, h1, h2.1⟩ e (fun z => nomatch z) h
  | @ins a C dx fs ea cl ha hn htk hm =>
    cases (show u = Value.ref a from rx)
    obtain ⟨mA, O, _⟩ := ins_get I.hok ea
    obtain ⟨od, J, _⟩ := O.look
    exact PySem.W.kia_one (PySem.W.kitx_own (cl.get _) cl.hd ha hn htk hm) I.kIn J e (fun z => nomatch z) h
end
end L2
namespace L2
open PySem PySem.Spec PyProof.Rows
structure Room (k : Nat) (A : Around) : Prop where
  hd : A.handled = none
  dp : A.depth + 3 * k + 5 < recursionLimit
  un : A.units + 16 * k + 200 < cLine
theorem Room.mono {j k : Nat} {A : Around} (r : Room k A) (h : j ≤ k) : Room j A := ⟨r.hd, by have := r.dp; omega, by have := r.un; omega⟩
theorem Room.deeper {k : Nat} {A : Around} (r : Room (k + 1) A) (env : Env) : Room k (A.deeper env) :=
  ⟨r.hd, by have := r.dp; show A.depth + 1 + 3 * k + 5 < _; omega, by have := r.un; show A.units + 3 + 16 * k + 200 < _; omega⟩
theorem make_depth {A : Around} {C : Addr} {us : List Value} {kw : List (Str × Value)} : (A.under (.builtin "type.__call__" ⟨.ref C :: us, kw⟩)).depth = A.depth + 1 := by
  first | rfl | simp [Around.under, Code.weight, Code.isCreation, Code.isGuard, Code.isCaller, Code.frames, Code.isFrame, guardIds]
theorem make_units {A : Around} {C : Addr} {us : List Value} {kw : List (Str × Value)} : (A.under (.builtin "type.__call__" ⟨.ref C :: us, kw⟩)).units = A.units + 1 := by
  first | rfl | simp [Around.under, Code.cUnits, Code.frames, Code.isFrame]
theorem Room.make {k : Nat} {A : Around} (r : Room (k + 1) A) (C : Addr) (us : List Value) (kw : List (Str × Value)) : Room k (A.under (.builtin "type.__call__" ⟨.ref C :: us, kw⟩)) :=
  ⟨r.hd, by have := r.dp; rw [make_depth]; omega, by have := r.un; rw [make_units]; omega⟩
theorem Room.depth {k : Nat} {A : Around} (r : Room k A) : A.depth < recursionLimit := by have := r.dp; omega
theorem Room.units {k : Nat} {A : Around} (r : Room k A) : A.units + 64 < cLine := by have := r.un; omega
noncomputable def tNil : TA := fun _ H Q => Q [] H
noncomputable def tCons (ta : TE) (tr : TA) : TA := fun σ H Q => ta σ H fun x H1 => tr σ H1 fun xs H2 => Q (x :: xs) H2
section
variable {X : Cx} {e : Expr} {es : List Expr} {te : TE} {t : TA} {pos : Pos}
theorem pa_nil : PA X [] tNil := fun _ _ _ _ H Q I h => Calls.spliced_nil ⟨[], H, I, .nil, h⟩
theorem pa_cons (ha : PE X e te) (hr : PA X es t) (hs : starEach (e :: es) X.env = (false, eval e X.env) :: starEach es X.env := by rfl) : PA X (e :: es) (tCons te t) := by
  intro pos pins s σ H Q I h
  rw [hs]
  show wpAny _ _ (spliced ((false, eval e X.env) :: backTo pos (starEach es X.env))) _ _ s
  refine Calls.spliced_cons (thn (ha pins s σ H _ I h) fun u s1 ⟨x, H1, I1, r1, q1⟩ => ?_)
  exact thn (hr pos pins s1 σ H1 _ I1 q1) fun us s2 ⟨xs, H2, I2, r2, q2⟩ => ⟨x :: xs, H2, I2, .cons r1 r2, q2⟩
noncomputable def tTup (t : TA) : TE := fun σ H Q => t σ H fun xs H1 => xs.length ≤ sizeLine ∧ ∀ p, H1 p = none → Q (.ref p) (upd H1 p (.tup xs))
noncomputable def tLst (t : TA) : TE := fun σ H Q => t σ H fun xs H1 => xs.length ≤ sizeLine ∧ ∀ p, H1 p = none → Q (.ref p) (upd H1 p (.lst xs))
theorem pe_tup {x1} (h : PA X es t) : PE X (.Tuple es x1 pos) (tTup t) := by
  intro pins s σ H Q I hq
  refine wpAny_Tuple_spliced (thn (h pos pins s σ H _ I hq) fun us s1 ⟨xs, H1, I1, r, z, q⟩ => ⟨by rw [← r.length]; exact z, ?_⟩)
  have hf : H1 s1.heap.objs.size = none := I1.hok.fresh (Nat.le_refl _)
  refine ⟨.ref s1.heap.objs.size, upd H1 s1.heap.objs.size (.tup xs), I1.laid (t' := s1.toks) (fun b u e => Heap.get?_push_of_some _ e) (Nat.le_refl _) ?_, rfl, q _ hf⟩
  exact ⟨z, us, r, ⟨_, Heap.get?_push_size _ rfl, rfl, _, rfl⟩⟩
theorem pe_lst (h : PA X es t) : PE X (.List es pos) (tLst t) := by
  intro pins s σ H Q I hq
  refine wpAny_List_spliced (thn (h pos pins s σ H _ I hq) fun us s1 ⟨xs, H1, I1, r, z, q⟩ => ⟨by rw [← r.length]; exact z, ?_⟩)
  have hf : H1 s1.heap.objs.size = none := I1.hok.fresh (Nat.le_refl _)
  refine ⟨.ref s1.heap.objs.size, upd H1 s1.heap.objs.size (.lst xs), I1.laid (t' := s1.toks) (fun b u e => Heap.get?_push_of_some _ e) (Nat.le_refl _) ?_, rfl, q _ hf⟩
  exact ⟨z, us, 0, r, Heap.get?_push_size _ rfl⟩
end
noncomputable abbrev Sp := List V → Hp → VK → XK → Prop
noncomputable abbrev CXT := List Env → Hp → Shared → XK → Value → Shared → Prop
structure Env0 (P : Program) (w : World) (K : PySem.W.Frag) (mg : Str → Option Value) (base : Heap) (A : Around) (outer : List Env) (s : Shared) (H : Hp) : Prop where
  frames : A.frames = some outer
  mod : Mod K mg base
  bs : ∀ b o, base.get? b = some o → s.heap.get? b = some o ∧ H b = none
  bsz : base.objs.size ≤ s.heap.objs.size
  funs : s.heap.FunFrames base outer
  frf : ∀ b ∈ frs outer, H b = none
  hok : HOk P w H s.heap
  bare : AllBare s.gens
noncomputable def CE (outer : List Env) (P : Program) (w : World) (H : Hp) (s : Shared) (Q : VK) (u : Value) (s' : Shared) : Prop :=
  ∃ v H', s'.os = s.os ∧ AllBare s'.gens ∧ Un (frs outer) [] H H' s.heap s'.heap ∧ HOk P w H' s'.heap ∧ RelV v u ∧ Q v H'
noncomputable def CR (CX : CXT) (outer : List Env) (P : Program) (w : World) (H : Hp) (s : Shared) (Q : VK) (E : XK) (r : Result) (s' : Shared) : Prop :=
  match r with
  | .ok (.ret u) => CE outer P w H s Q u s'
  | .ok _ => False
  | .error e => CX outer H s E e s'
structure FnOk (P : Program) (w : World) (K : PySem.W.Frag) (mg : Str → Option Value) (base : Heap) (CX : CXT) (k : Nat) (f : Addr) (fd : FuncData) (ps : List Str) (sp : Sp) : Prop where
  len : ∀ vs H Q E, sp vs H Q E → vs.length = ps.length
  run : ∀ (A : Around) (outer : List Env) (s : Shared) (H : Hp) (args : Args) (us : List Value) (vs : List V) (Q : VK) (E : XK), Room k A → Env0 P w K mg base A outer s H → BindsTo s fd args (ps.zip us) → Vals vs us → sp vs H Q E →
    codeAny (model P w) A (.call (.ref f) args) (CR CX outer P w H s Q E) s
theorem FnOk.mono {P : Program} {w : World} {K : PySem.W.Frag} {mg : Str → Option Value} {base : Heap} {CX : CXT} {j k : Nat} {f : Addr} {fd : FuncData} {ps : List Str} {sp : Sp} (F : FnOk P w K mg base CX j f fd ps sp) (h : j ≤ k) :
    FnOk P w K mg base CX k f fd ps sp := ⟨F.len, fun A outer s H args us vs Q E hr => F.run A outer s H args us vs Q E (hr.mono h)⟩
theorem Env0.make {P : Program} {w : World} {K : PySem.W.Frag} {mg : Str → Option Value} {base : Heap} {A : Around} {outer : List Env} {s : Shared} {H : Hp} (e : Env0 P w K mg base A outer s H) (C : Addr) (us : List Value) (kw : List (Str × Value)) :
    Env0 P w K mg base (A.under (.builtin "type.__call__" ⟨.ref C :: us, kw⟩)) outer s H := ⟨by first | exact e.frames | (simpa [Around.under, Code.envs, Code.isFrame, pushEnvs] using e.frames), e.mod, e.bs, e.bsz, e.funs, e.frf, e.hok, e.bare⟩
section
variable {X : Cx} {pins : List (Addr × Obj)} {σ : St} {H : Hp} {s s' : Shared}
theorem Inv.env0 (I : Inv X pins σ H s) : Env0 X.prog X.w X.K X.mg X.base X.A X.stack s H :=
  ⟨I.ok.frames, I.ok.mod, I.bs, Nat.le_trans I.ok.bsz I.sz, I.stack, I.stkFree, I.hok, I.bare⟩
theorem Inv.after {Q : VK} {u : Value} (I : Inv X pins σ H s) (h : CE X.stack X.prog X.w H s Q u s') : EP X pins σ Q u s' := by
  obtain ⟨v, H', os, bare, un, hok, r, q⟩ := h
  obtain ⟨hh, g, d, t, os'⟩ := s'
  obtain rfl : os' = s.os := os
  exact ⟨v, H', I.call (h' := hh) (g' := g) (d' := d) (t' := t) (ch := []) un hok bare (fun b z => absurd z (by simp)), r, q⟩
end
noncomputable def tCall (sp : Sp) (dvs : List V) (E : XK) (t : TA) : TE := fun σ H Q => t σ H fun vs H1 => sp (vs ++ dvs) H1 Q E
noncomputable def tMeth (C : Addr) (m : Str) (sp : Sp) (dvs : List V) (E : XK) (ta : TE) (t : TA) : TE := fun σ H Q => ta σ H fun x H1 => ∃ a dx fs, x = .ref a ∧ H1 a = some (.ins C dx fs) ∧ fs.lookup m = none ∧
  t σ H1 fun vs H2 => sp (x :: (vs ++ dvs)) H2 Q E
noncomputable def Binds (K : PySem.W.Frag) (fd : FuncData) (ps : List Str) (ds : List Value) : Prop :=
  ∀ (s : Shared) (us : List Value), K.In s.heap → (us ++ ds).length = ps.length → BindsTo s fd ⟨us, []⟩ (ps.zip (us ++ ds))
theorem Binds.all {K : PySem.W.Frag} {fd : FuncData} {ps : List Str} (h : ∀ us : List Value, us.length = ps.length → bindArgs fd ⟨us, []⟩ = pure (ps.zip us)) : Binds K fd ps [] := fun s us _ hl => by
  rw [List.append_nil] at hl ⊢
  exact .of_eq (h us hl)
noncomputable def Passes (CX : CXT) (X : Cx) (E : XK) : Prop := ∀ (pins : List (Addr × Obj)) (σ : St) (H : Hp) (s : Shared) (e : Value) (s' : Shared), Inv X pins σ H s → CX X.stack H s E e s' → X.xe e s'
section
variable {X : Cx} {CX : CXT} {k : Nat} {f C : Addr} {fd : FuncData} {ps : List Str} {sp : Sp} {dvs : List V} {ds : List Value} {E : XK} {x m : Str} {p pos apos : Pos} {e o : Expr} {es : List Expr} {ta : TE} {t : TA}
theorem run_fn {pins : List (Addr × Obj)} {σ : St} {H : Hp} {s : Shared} {Q : VK} {us : List Value} {vs : List V} (F : FnOk X.prog X.w X.K X.mg X.base CX k f fd ps sp) (hr : Room k X.A) (hb : Binds X.K fd ps ds) (hd : Vals dvs ds) (hx : Passes CX X E)
    (I : Inv X pins σ H s) (r : Vals vs us) (h : sp (vs ++ dvs) H Q E) : wpAny (model X.prog X.w) X.A (call (.ref f) us) (EP X pins σ Q) X.xe s := by
  have r2 : Vals (vs ++ dvs) (us ++ ds) := r.append hd
  have hl : (us ++ ds).length = ps.length := by rw [← r2.length]; exact F.len _ _ _ _ h
  refine wpAny_call (codeAny_mono (F.run X.A X.stack s H ⟨us, []⟩ (us ++ ds) (vs ++ dvs) Q E hr I.env0 (hb s us I.kIn hl) r2 h) fun r s' hq => ?_)
  cases r with
  | error e => exact hx pins σ H s e s' I hq
  | ok fl =>
    cases fl with
    | ret u => exact I.after hq
    | next => exact False.elim hq
    | brk => exact False.elim hq
    | cont => exact False.elim hq
theorem pe_call (F : FnOk X.prog X.w X.K X.mg X.base CX k f fd ps sp) (hr : Room k X.A) (hg : Gl X x) (hm : X.mg x = some (.ref f)) (hk : PySem.W.keepIn X.K (.ref f) = true) (hb : Binds X.K fd ps ds) (hd : Vals dvs ds) (hx : Passes CX X E)
    (ha : PA X (e :: es) t) (hdb : (x == ("__debug__" : Str)) = false := by decide) (he : starEach (e :: es) X.env = (false, eval e X.env) :: starEach es X.env := by rfl) (hpl : (backTo pos (starEach es X.env)).any (·.1) = false := by rfl) :
    PE X (.Call (.Name x p) (e :: es) [] pos) (tCall sp dvs E t) := by
  intro pins s σ H Q I h
  refine wpAny_Call_Name_kw (ld_glob I hg hm ?_ hdb)
  refine PySem.W.callWith_K (h₀ := X.base) I.ok.mod.kin hk (thn (ha pos pins s σ H _ I h) fun us s1 ⟨vs, H1, I1, r, q⟩ => ⟨I1.kIn, ?_⟩) he hpl
  exact run_fn F hr hb hd hx I1 r q
theorem pe_meth0 {pl : Sem Bool} (he : PE X o ta) (c : Cls X.K C) (hm : Meth X.K C m f) (F : FnOk X.prog X.w X.K X.mg X.base CX k f fd ps sp) (hr : Room k X.A) (hb : Binds X.K fd ps ds) (hd : Vals dvs ds) (hx : Passes CX X E)
    (ht : eval (.Call (.Attribute o m apos) [] [] pos) X.env = (do
      let ov ← eval o X.env
      standAt apos.atName
      let (f, first) ← holding [ov] (getMethod ov m pl)
      callWith pos f first (backTo pos (starEach [] X.env)) (backToKw pos (keywordEach [] X.env))) := by rfl) :
    PE X (.Call (.Attribute o m apos) [] [] pos) (tMeth C m sp dvs E ta tNil) := by
  intro pins s σ H Q I h
  refine PySem.W.methodCall_KW (pl := pl) (thn (he pins s σ H _ I h) fun u s1 ⟨x, H1, I1, rx, a, dx, fs, ex, ea, l, q⟩ => ?_) ht
  subst ex
  obtain rfl : u = Value.ref a := rx
  refine getmeth_ok I1 ea c hm l ?_
  exact PySem.W.callWith_K0 (first := [.ref a]) I1.kIn hm.kp (run_fn (us := [.ref a]) (vs := [.ref a]) F hr hb hd hx I1 (.cons rfl .nil) q)
structure Mk (K : PySem.W.Frag) (C f : Addr) : Prop where
  makes : PySem.W.makesIn K C = true
  init : PySem.W.findIn K (.ref C) "__init__" = some (some (.ref f))
  fn : PySem.W.isFn K (.ref f) = true
  kp : PySem.W.keepIn K (.ref C) = true
end
section
variable {X : Cx} {CX : CXT} {k : Nat} {f C : Addr} {fd : FuncData} {ps ks : List Str} {sp : Sp} {E : XK} {x m : Str} {p pos apos kpos : Pos} {e o : Expr} {es : List Expr} {kws : List Keyword} {te ta : TE} {t tk : TA} {nm : Option Str}
variable {g : List Value → List Value → List Value} {gV : List V → List V → List V}
end
structure FnScope (N P : List Str) (sc : Scope) : Prop where
  kind : sc.kind = .function
  co : sc.isCoroutine = false
  gen : sc.isGenerator = false
  nd : N.Nodup
  pre : N.take P.length = P
  par : ∀ x ∈ P, sc.names.lookup x = some .local ∨ sc.names.lookup x = some .cell
  nofree : ∀ y ∈ sc.names, y.2 ≠ .free
theorem bindL_out {kindOf : Str → Option NameKind} {x : Str} : ∀ {binds : List (Str × Value)} {m : Str → Option Value}, (∀ v, (x, v) ∉ binds) → bindL kindOf binds m x = m x
  | [], _, _ => rfl
  | (n, v) :: r, m, h => by
    unfold bindL
    rw [bindL_out fun w hw => h w (List.mem_cons_of_mem _ hw)]
    split
    · have : x ≠ n := by rintro rfl; exact h v List.mem_cons_self
      simp [this]
    · rfl
theorem bindC_out {kindOf : Str → Option NameKind} {x : Str} : ∀ {binds : List (Str × Value)} {m : Str → Option Value}, (∀ v, (x, v) ∉ binds) → bindC kindOf binds m x = m x
  | [], _, _ => rfl
  | (n, v) :: r, m, h => by
    unfold bindC
    rw [bindC_out fun w hw => h w (List.mem_cons_of_mem _ hw)]
    split
    · rfl
    · have : x ≠ n := by rintro rfl; exact h v List.mem_cons_self
      simp [this]
theorem bindL_get {kindOf : Str → Option NameKind} {x : Str} {v : Value} : ∀ {P : List Str} {vs : List Value} {i : Nat} {m : Str → Option Value}, P.Nodup → P[i]? = some x → vs[i]? = some v → kindOf x = some .local →
    bindL kindOf (P.zip vs) m x = some v
  | [], _, _, _, _, h, _, _ => by simp at h
  | _ :: _, [], _, _, _, _, h, _ => by simp at h
  | p :: P, w :: vs, 0, m, nd, h1, h2, hk => by
    simp at h1 h2; subst h1; subst h2
    show bindL kindOf ((p, w) :: P.zip vs) m p = _
    unfold bindL
    rw [bindL_out fun v hv => (List.nodup_cons.mp nd).1 (List.of_mem_zip hv).1, if_pos hk]
    simp
  | p :: P, w :: vs, i + 1, m, nd, h1, h2, hk => by
    show bindL kindOf ((p, w) :: P.zip vs) m x = _
    unfold bindL
    exact bindL_get (i := i) (List.nodup_cons.mp nd).2 (by simpa using h1) (by simpa using h2) hk
theorem bindC_get {kindOf : Str → Option NameKind} {x : Str} {v : Value} : ∀ {P : List Str} {vs : List Value} {i : Nat} {m : Str → Option Value}, P.Nodup → P[i]? = some x → vs[i]? = some v → kindOf x ≠ some .local →
    bindC kindOf (P.zip vs) m x = some v
  | [], _, _, _, _, h, _, _ => by simp at h
  | _ :: _, [], _, _, _, _, h, _ => by simp at h
  | p :: P, w :: vs, 0, m, nd, h1, h2, hk => by
    simp at h1 h2; subst h1; subst h2
    show bindC kindOf ((p, w) :: P.zip vs) m p = _
    unfold bindC
    rw [bindC_out fun v hv => (List.nodup_cons.mp nd).1 (List.of_mem_zip hv).1, if_neg hk]
    simp
  | p :: P, w :: vs, i + 1, m, nd, h1, h2, hk => by
    show bindC kindOf ((p, w) :: P.zip vs) m x = _
    unfold bindC
    exact bindC_get (i := i) (List.nodup_cons.mp nd).2 (by simpa using h1) (by simpa using h2) hk
noncomputable def start (N : List Str) (vs : List V) : St := vs.map some ++ List.replicate (N.length - vs.length) none
noncomputable def cxOf (CX : CXT) (P : Program) (w : World) (K : PySem.W.Frag) (mg : Str → Option Value) (base : Heap) (N : List Str) (qual : Str) (scope : Scope) (f : Addr) (cd : Value) (A : Around) (outer : List Env) (s : Shared) (H : Hp) (E : XK) : Cx where
  prog := P
  w := w
  K := K
  mg := mg
  base := base
  A := A.deeper (envOfC qual scope s.heap.objs.size f cd)
  N := N
  s₀ := s
  H₀ := H
  env := envOfC qual scope s.heap.objs.size f cd
  outer := outer
  stack := envOfC qual scope s.heap.objs.size f cd :: outer
  ex := []
  calm := true
  fn := fun _ => true
  pn := []
  xe := fun e s' => wpAny (model P w) (A.deeper (envOfC qual scope s.heap.objs.size f cd)) (leaving (envOfC qual scope s.heap.objs.size f cd) e) (fun _ s'' => CX outer H s E e s'') (fun e' s'' => CX outer H s E e' s'') s'
theorem cell_has {sc : Scope} {n : Nat} {x : Str} (h : sc.names.lookup x = some .cell) : ∃ c, (cellsFrom n sc.names []).lookup x = some c := by
  have q := PySem.W.cellsFrom_some sc.names n [] (.inl h)
  exact Option.isSome_iff_exists.mp q
theorem inv_start {CX : CXT} {P : Program} {w : World} {K : PySem.W.Frag} {mg : Str → Option Value} {base : Heap} {N ps : List Str} {qual : Str} {scope : Scope} {f : Addr} {cd : Value} {A : Around} {outer : List Env} {s s1 : Shared} {H : Hp} {E : XK} {us : List Value} {vs : List V}
    (S : FnScope N ps scope) (hd : A.handled = none) (e0 : Env0 P w K mg base A outer s H) (hl : vs.length = ps.length) (r : Vals vs us)
    (x : InCallC s s.heap.objs.size (bindL (envOfC qual scope s.heap.objs.size f cd).kindOf (ps.zip us) fun _ => none) (cellsFrom (s.heap.objs.size + 1) scope.names []) (bindC (envOfC qual scope s.heap.objs.size f cd).kindOf (ps.zip us) fun _ => none) s1) :
    Inv (cxOf CX P w K mg base N qual scope f cd A outer s H E) [] (start N vs) H s1 := by
  have hpl : ps.length ≤ N.length := by have := congrArg List.length S.pre; rw [List.length_take] at this; omega
  obtain ⟨h1, tk, rfl, hk⟩ := x.done
  have noA : ∀ b : Addr, b ∉ (cxOf CX P w K mg base N qual scope f cd A outer s H E).ex := fun b z => absurd (show b ∈ ([] : List Addr) from z) (by simp)
  refine ⟨⟨e0.mod, S.kind, rfl, rfl, Nat.le_refl _, fun y z c h1 h2 => ?_, fun y hy => ?_, fun y c _ h => ?_, fun _ => hd, Around.frames_deeper e0.frames, .inr ⟨rfl, rfl⟩, fun b z => absurd z (noA b), e0.bs, e0.bsz, fun b _ _ => noA b, fun b z => absurd z (noA b), e0.funs, e0.frf⟩,
    rfl, e0.bare, Un.kept hk, ⟨_, x.toInCall.ns, fun i y v h1 h2 h3 => ?_⟩, fun y c h => ⟨_, x.cell y c h⟩, e0.hok.fresh (Nat.le_refl _), fun y c h => ?_, fun p hp => absurd (show p ∈ ([] : List (Addr × Obj)) from hp) (by simp), e0.hok.kept hk, ?_⟩
  · exact name_of_addr x.apart (PySem.mem_of_lookup h1) (PySem.mem_of_lookup h2)
  · have hy : scope.names.lookup y = some .cell ∨ scope.names.lookup y = some .free := hy
    rcases hy with hy | hy
    · exact cell_has hy
    · exact absurd rfl (S.nofree _ (PySem.mem_of_lookup hy))
  · exact Nat.le_of_lt (x.above y c (PySem.mem_of_lookup h))
  · have hi : i < vs.length := by
      unfold start at h2
      by_cases hi : i < vs.length
      · exact hi
      · rw [List.getElem?_append_right (by simpa using hi)] at h2
        rw [List.getElem?_replicate] at h2
        split at h2 <;> cases h2
    have ha : vs[i]? = some v := by
      unfold start at h2
      rw [List.getElem?_append_left (by simpa using hi), List.getElem?_map] at h2
      cases e : vs[i]? with
      | none => rw [e] at h2; cases h2
      | some a => rw [e] at h2; cases h2; rfl
    obtain ⟨u, hu, rv⟩ := r.get ha
    have hp : ps[i]? = some y := by
      rw [← S.pre, List.getElem?_take_of_lt (by omega)]; exact h1
    have ndP : ps.Nodup := by rw [← S.pre]; exact S.nd.sublist (List.take_sublist _ _)
    refine ⟨u, rv, ?_⟩
    rcases S.par y (List.mem_of_getElem? hp) with k | k
    · exact .inl ⟨k, bindL_get ndP hp hu k⟩
    · obtain ⟨c, e⟩ := cell_has (n := s.heap.objs.size + 1) k
      refine .inr ⟨.inl k, c, e, ?_⟩
      have q := x.cell y c e
      rw [bindC_get ndP hp hu (by show scope.names.lookup y ≠ _; rw [k]; decide)] at q
      exact q
  · exact e0.hok.fresh (Nat.le_of_lt (x.above y c (PySem.mem_of_lookup h)))
  · unfold start
    show _ = N.length
    rw [List.length_append, List.length_map, List.length_replicate]
    omega
theorem fn_of {CX : CXT} {P : Program} {w : World} {K : PySem.W.Frag} {mg : Str → Option Value} {base : Heap} {k : Nat} {f : Addr} {name qual : Str} {params : Arguments} {body : List Stmt} {scope : Scope} {dV kV doc pm cdv ct oc : Value} {an od : Option Addr}
    {osl : Array (Option Value)} {N ps : List Str} {sp : Sp} (lk : K.lookup f = some ⟨oc, od, .func (PySem.W.fnOf name qual params body scope dV kV doc pm an cdv ct), osl⟩) (hcd : PySem.W.codeIn K cdv qual = true) (S : FnScope N ps scope)
    (len : ∀ vs H Q E, sp vs H Q E → vs.length = ps.length)
    (hbody : ∀ (A : Around) (outer : List Env) (s : Shared) (H : Hp) (vs : List V) (Q : VK) (E : XK), Room k (A.deeper (envOfC qual scope s.heap.objs.size f cdv)) → sp vs H Q E →
      ∃ t, PSs (cxOf CX P w K mg base N qual scope f cdv A outer s H E) body t ∧ t { nx := fun _ H' => Q .non H', rt := Q } (start N vs) H) :
    FnOk P w K mg base CX (k + 1) f (PySem.W.fnOf name qual params body scope dV kV doc pm an cdv ct) ps sp := by
  refine ⟨len, fun A outer s H args us vs Q E hr e0 hb r hsp => ?_⟩
  have hl := len _ _ _ _ hsp
  have KX : K.In s.heap := e0.mod.kin.keeps fun b o e => (e0.bs b o e).1
  have lim : s.heap.NoLimit := e0.mod.nolimit.keeps fun b o e => (e0.bs b o e).1
  have hkind : ∀ y ∈ ps.zip us, scope.names.lookup y.1 = some .local ∨ (scope.names.lookup y.1 = some .cell ∧ ((cellsFrom (s.heap.objs.size + 1) scope.names []).lookup y.1).isSome = true) := fun ⟨n, v⟩ hy => by
    rcases S.par n (List.of_mem_zip hy).1 with q | q
    · exact .inl q
    · exact .inr ⟨q, PySem.W.cellsFrom_some _ _ _ (.inl q)⟩
  refine codeAny_call_function hr.depth (KX _ _ lk) rfl S.co S.gen rfl (PySem.W.codeRec_of KX hcd) (hb _ _ _ _ ?_)
  refine wpAny_newFunctionEnv_cells S.kind hkind fun env he s1 x => ?_
  subst he
  refine ⟨lim.keeps x.toInCall.keep, codeAny_func ?_⟩
  obtain ⟨t, ht, hq⟩ := hbody A outer s H vs Q E (hr.deeper _) hsp
  have I : Inv (cxOf CX P w K mg base N qual scope f cdv A outer s H E) [] (start N vs) H s1 := inv_start S hr.hd e0 hl r x
  refine wpAny_mono (ht [] s1 (start N vs) H _ I hq) (fun fl s' hs => ?_) fun e s' hs => hs
  have fin : ∀ {σ' : St} {H' : Hp} {v : V} {u : Value}, Inv (cxOf CX P w K mg base N qual scope f cdv A outer s H E) [] σ' H' s' → RelV v u → Q v H' → CE outer P w H s Q u s' :=
    fun {σ' H' v u} J rv q => ⟨v, H', J.os, J.bare, J.base, J.hok, rv, q⟩
  cases fl with
  | ret u =>
    obtain ⟨v, σ', H', J, rv, q⟩ := hs
    exact fin J rv q
  | next =>
    obtain ⟨σ', H', J, q⟩ := hs
    exact fin (v := V.non) (u := Value.none) J rfl q
  | brk =>
    obtain ⟨_, _, _, q⟩ := hs
    exact False.elim q
  | cont =>
    obtain ⟨_, _, _, q⟩ := hs
    exact False.elim q
end L2
namespace L2
open PySem PySem.Spec PyProof.Rows
section
variable {X : Cx} {x : Str} {p pos : Pos} {e : Expr} {es : List Expr} {t : TA} {id T : String} {r : List V → Hp → VK → Prop}
noncomputable def tCB (r : List V → Hp → VK → Prop) (t : TA) : TE := fun σ H Q => t σ H fun vs H1 => r vs H1 Q
theorem pe_callB (hc : CallR X (.builtin id) r) (hg : Gl X x) (hm : X.mg x = none) (hv : bootBuiltins x = some (.builtin id)) (ha : PA X (e :: es) t) (hn : x ≠ "__name__" := by decide) (hdb : (x == ("__debug__" : Str)) = false := by decide)
    (he : starEach (e :: es) X.env = (false, eval e X.env) :: starEach es X.env := by rfl) (hpl : (backTo pos (starEach es X.env)).any (·.1) = false := by rfl) : PE X (.Call (.Name x p) (e :: es) [] pos) (tCB r t) := by
  intro pins s σ H Q I h
  refine wpAny_Call_Name_kw (ld_blt I hg hm hv ?_ hn hdb)
  exact PyProof.Rows.callWith_builtin1 (thn (ha pos pins s σ H _ I h) fun us s1 ⟨vs, H1, I1, r1, q1⟩ => hc pins s1 σ H1 vs us Q I1 r1 q1) he hpl
theorem pe_callTy (hc : CallR X (.type T) r) (hg : Gl X x) (hm : X.mg x = none) (hv : bootBuiltins x = some (.type T)) (ha : PA X (e :: es) t) (hn : x ≠ "__name__" := by decide) (hdb : (x == ("__debug__" : Str)) = false := by decide)
    (he : starEach (e :: es) X.env = (false, eval e X.env) :: starEach es X.env := by rfl) (hpl : (backTo pos (starEach es X.env)).any (·.1) = false := by rfl) : PE X (.Call (.Name x p) (e :: es) [] pos) (tCB r t) := by
  intro pins s σ H Q I h
  refine wpAny_Call_Name_kw (ld_blt I hg hm hv ?_ hn hdb)
  exact PyProof.Rows.callWith_type1 (thn (ha pos pins s σ H _ I h) fun us s1 ⟨vs, H1, I1, r1, q1⟩ => hc pins s1 σ H1 vs us Q I1 r1 q1) he hpl
end
end L2
namespace HT
open PySem PyProof.Rows
section
open PySem.SeqAt
open PySem.AutoSeq1 (wpAny_loadPart')
open PySem.MeetsSeq PySem.MeetsSeq2 PySem.MeetsSeq3
end
section
variable {prog : Program} {w : World} {A : Around} {E : Value → Shared → Prop} {s : Shared}
noncomputable def sIx (n d : Nat) : Option Int → Nat
  | none => d
  | some v => if v < 0 then (v + (n : Int)).toNat else min v.toNat n
theorem sIx_none (n d : Nat) : sIx n d none = d := rfl
theorem sIx_nat (n d k : Nat) : sIx n d (some (k : Int)) = min k n := by
  show (if (k : Int) < 0 then ((k : Int) + (n : Int)).toNat else min (k : Int).toNat n) = min k n
  rw [if_neg (by omega), Int.toNat_natCast]
end
end HT
namespace L2
open PySem PySem.Spec PyProof.Rows
noncomputable abbrev TO := St → Hp → (Option Int → Hp → Prop) → Prop
noncomputable def PO (X : Cx) (e : Option Expr) (t : TO) : Prop :=
  ∀ (pins : List (Addr × Obj)) (s : Shared) (σ : St) (H : Hp) (Q : Option Int → Hp → Prop), Inv X pins σ H s → t σ H Q →
    wpAny (model X.prog X.w) X.A (evalPart e X.env) (fun u s' => ∃ o H', Inv X pins σ H' s' ∧ IsPart u o ∧ Q o H') X.xe s
noncomputable def tNoPart : TO := fun _ H Q => Q none H
noncomputable def tPart (t : TE) : TO := fun σ H Q => t σ H fun x H1 => ∃ i, x = .int i ∧ Q (some i) H1
section
variable {X : Cx} {e : Expr} {te : TE} {lo hi : Option Expr} {tl th : TO} {pos p2 : Pos}
theorem po_none : PO X none tNoPart := by
  intro pins s σ H Q I h
  rw [evalPart_none]
  exact wpAny_pure ⟨none, H, I, .none, h⟩
theorem po_some (h : PE X e te) : PO X (some e) (tPart te) := by
  intro pins s σ H Q I hw
  rw [evalPart_some]
  refine thn (h pins s σ H _ I hw) fun u s1 ⟨x, H1, I1, r1, q1⟩ => ?_
  obtain ⟨i, rfl, q⟩ := q1
  obtain ⟨t, rfl⟩ := r1
  exact ⟨some i, H1, I1, .int i t, q⟩
noncomputable def SlR (X : Cx) (r : V → Option Int → Option Int → Hp → VK → Prop) : Prop :=
  ∀ (pins : List (Addr × Obj)) (s : Shared) (σ : St) (H : Hp) (x : V) (v vl vu : Value) (lo hi : Option Int) (sl : Addr) (Q : VK), Inv X pins σ H s → RelV x v → s.heap.IsSliceOf sl vl vu .none → IsPart vl lo → IsPart vu hi → r x lo hi H Q →
    ∃ T id, typeLookup (.type T) "__getitem__" = pure (some (.builtin id)) ∧ s.TypeIs v T ∧ wpAny (model X.prog X.w) X.A (getItem v (.ref sl)) (EP X pins σ Q) X.xe s
noncomputable def tSl (r : V → Option Int → Option Int → Hp → VK → Prop) (te : TE) (tl th : TO) : TE := fun σ H Q => te σ H fun x H1 => tl σ H1 fun l H2 => th σ H2 fun u H3 => r x l u H3 Q
theorem pe_slice {r : V → Option Int → Option Int → Hp → VK → Prop} (hr : SlR X r) (he : PE X e te) (hl : PO X lo tl) (hu : PO X hi th) : PE X (.Subscript e (.Slice lo hi none p2) pos) (tSl r te tl th) := by
  intro pins s σ H Q I h
  refine Subscript_ (thn (he pins s σ H _ I h) fun v s1 ⟨x, H1, I1, r1, q1⟩ => ?_)
  refine wpAny_Slice (thn (hl pins s1 σ H1 _ I1 q1) fun vl s2 ⟨l, H2, I2, pl, q2⟩ => thn (hu pins s2 σ H2 _ I2 q2) fun vu s3 ⟨u, H3, I3, pu, q3⟩ => ?_)
  rw [evalPart_none]
  refine wpAny_pure ?_
  have I4 : Inv X pins σ H3 { s3 with heap := s3.heap.push { cls := .type "slice", data := .fields #[vl, vu, .none] } } := I3.kept (t' := s3.toks) fun b ob q => Heap.get?_push_of_some _ q
  obtain ⟨T, id, hT, ht, hg⟩ := hr pins { s3 with heap := s3.heap.push { cls := .type "slice", data := .fields #[vl, vu, .none] } } σ H3 x v vl vu l u s3.heap.objs.size Q I4 r1 (Heap.IsSliceOf.new ..) pl pu q3
  show wpAny (model X.prog X.w) X.A (subscriptTail e (.Slice lo hi none p2) v (.ref s3.heap.objs.size)) (EP X pins σ Q) X.xe { s3 with heap := s3.heap.push { cls := .type "slice", data := .fields #[vl, vu, .none] } }
  exact tail_any (ops := [.ref s3.heap.objs.size, v]) ht hT hg (by with_unfolding_all rfl)
noncomputable def cutV (xs : List V) (lo hi : Option Int) : List V := (xs.drop (HT.sIx xs.length 0 lo)).take (HT.sIx xs.length xs.length hi - HT.sIx xs.length 0 lo)
theorem cutV_length (xs : List V) (lo hi : Option Int) : (cutV xs lo hi).length ≤ xs.length := by
  unfold cutV
  rw [List.length_take, List.length_drop]
  omega
end
end L2
namespace L2
open PySem PySem.Spec PyProof.Rows
noncomputable def ixN (n : Nat) (i : Int) : Option Nat := if 0 ≤ i then (if i < n then some i.toNat else none) else if -(n : Int) ≤ i then some (i + n).toNat else none
noncomputable def atI {α : Type} (xs : List α) (i : Int) : Option α := (ixN xs.length i).bind fun j => xs[j]?
theorem ixN_seq {n : Nat} {i : Int} {j : Nat} (h : ixN n i = some j) : seqIndex? i n = some j ∧ j < n ∧ -(n : Int) ≤ i ∧ i < n := by
  unfold ixN at h
  by_cases h0 : 0 ≤ i
  · rw [if_pos h0] at h
    by_cases h1 : i < n
    · rw [if_pos h1] at h
      have e : i.toNat = j := Option.some.inj h
      exact ⟨by rw [seqIndex_of h0 h1, e], by omega, by omega, h1⟩
    · rw [if_neg h1] at h; cases h
  · rw [if_neg h0] at h
    by_cases h1 : -(n : Int) ≤ i
    · rw [if_pos h1] at h
      have e : (i + n).toNat = j := Option.some.inj h
      exact ⟨by rw [seqIndex_neg (by omega) h1, e], by omega, h1, by omega⟩
    · rw [if_neg h1] at h; cases h
theorem atI_get {α : Type} {xs : List α} {i : Int} {v : α} (h : atI xs i = some v) : ∃ j, seqIndex? i xs.length = some j ∧ xs[j]? = some v ∧ j < xs.length ∧ -(xs.length : Int) ≤ i ∧ i < xs.length := by
  unfold atI at h
  cases e : ixN xs.length i with
  | none => rw [e] at h; cases h
  | some j =>
    rw [e] at h
    obtain ⟨h1, h2, h3, h4⟩ := ixN_seq e
    exact ⟨j, h1, h, h2, h3, h4⟩
theorem atI_nat {α : Type} {xs : List α} {j : Nat} {v : α} (h : xs[j]? = some v) : atI xs (j : Int) = some v := by
  have hj : j < xs.length := (List.getElem?_eq_some_iff.mp h).1
  have e : ixN xs.length (j : Int) = some j := by
    unfold ixN
    rw [if_pos (by omega), if_pos (by omega)]; simp
  unfold atI; rw [e]; exact h
noncomputable def PlainIx (b : Expr) : Prop := ∀ o i, subscripted b false o i = operate [o, i] (getItem o i)
noncomputable def IxR (X : Cx) (r : R2) : Prop :=
  ∀ (value slice : Expr) (pins : List (Addr × Obj)) (s : Shared) (σ : St) (H : Hp) (x y : V) (v u : Value) (Q : VK), Inv X pins σ H s → RelV x v → RelV y u → r x y H Q →
    subscripted slice false v u = operate [v, u] (getItem v u) → wpAny (model X.prog X.w) X.A (subscriptTail value slice v u) (EP X pins σ Q) X.xe s
section
variable {X : Cx} {a b : Expr} {ta tb : TE} {pos : Pos}
theorem IxR.or {r r' : R2} (h : IxR X r) (h' : IxR X r') : IxR X (fun x y H Q => r x y H Q ∨ r' x y H Q) := by
  intro value slice pins s σ H x y v u Q I rx ry q hs
  rcases q with q | q
  · exact h value slice pins s σ H x y v u Q I rx ry q hs
  · exact h' value slice pins s σ H x y v u Q I rx ry q hs
theorem pe_ix {r : R2} (hr : IxR X r) (ha : PE X a ta) (hb : PE X b tb) (hs : PlainIx b) : PE X (.Subscript a b pos) (tOp r ta tb) := by
  intro pins s σ H Q I h
  exact Subscript_ (binT ha hb I h fun v u s2 x y H2 I2 rx ry q => hr a b pins s2 σ H2 x y v u Q I2 rx ry q (hs _ _))
noncomputable def rIxL (K : PySem.W.Frag) : R2 := fun x y H Q => ∃ p xs i v, x = .ref p ∧ y = .int i ∧ SqL K H p xs ∧ atI xs i = some v ∧ Q v H
noncomputable def rIxT (K : PySem.W.Frag) : R2 := fun x y H Q => ∃ p xs i v, x = .ref p ∧ y = .int i ∧ SqT K H p xs ∧ atI xs i = some v ∧ Q v H
noncomputable def rIxS : R2 := fun x y H Q => ∃ z i c, x = .str z ∧ y = .int i ∧ z.length ≤ sizeLine ∧ atI z.cps.toList i = some c ∧ Q (.str ⟨#[c]⟩) H
theorem ix_list : IxR X (rIxL X.K) := by
  intro value slice pins s σ H x y v u Q I rx ry h hs
  obtain ⟨p, xs, i, z, rfl, rfl, hq, he, q⟩ := h
  cases rx
  obtain ⟨t, rfl⟩ := ry
  obtain ⟨its, r, pl, hz⟩ := I.list hq
  obtain ⟨j, h1, h2, h3, h4, h5⟩ := atI_get he
  obtain ⟨w, ew, rw'⟩ := r.get h2
  have hl := r.length
  have hn := line63
  have fin : EP X pins σ Q w s := ⟨z, H, I, rw', q⟩
  by_cases h0 : 0 ≤ i
  · have hj : i.toNat = j := by
      rw [seqIndex_of h0 h5] at h1
      exact Option.some.inj h1
    exact item_listR pl.isList h0 (by omega) (by rw [hj]; simpa using ew) fin hs
  · have hj : (i + (its.toArray.size : Int)).toNat = j := by
      rw [seqIndex_neg (by omega) h4] at h1
      rw [List.size_toArray, ← hl]
      exact Option.some.inj h1
    exact subscriptTail_builtinR (x := w) pl.isList.typeIs slot_list_getitem.lookup
      (wpAny_getItem_list_neg (Q := fun r s' => r = w ∧ EP X pins σ Q r s') pl.isList (by omega) (by rw [List.size_toArray] <;> omega) (by omega) (by rw [hj]; simpa using ew) ⟨rfl, fin⟩) hs
theorem ix_tup : IxR X (rIxT X.K) := by
  intro value slice pins s σ H x y v u Q I rx ry h hs
  obtain ⟨p, xs, i, z, rfl, rfl, hq, he, q⟩ := h
  cases rx
  obtain ⟨t, rfl⟩ := ry
  obtain ⟨its, r, pl, hz⟩ := I.tuple hq
  obtain ⟨j, h1, h2, h3, h4, h5⟩ := atI_get he
  obtain ⟨w, ew, rw'⟩ := r.get h2
  have hl := r.length
  have hn := line63
  have fin : EP X pins σ Q w s := ⟨z, H, I, rw', q⟩
  exact subscriptTail_builtinR (x := w) pl.typeIs slot_tuple_getitem.lookup
    (getItem_tuple (j := j) (Q := fun r s' => r = w ∧ EP X pins σ Q r s') pl (by omega) (by omega) (by rw [List.size_toArray, ← hl]; exact h1) (by simpa using ew) ⟨rfl, fin⟩) hs
theorem ix_str : IxR X rIxS := by
  intro value slice pins s σ H x y v u Q I rx ry h hs
  obtain ⟨z, i, c, rfl, rfl, hz, he, q⟩ := h
  obtain ⟨t, rfl⟩ := rx
  obtain ⟨t', rfl⟩ := ry
  obtain ⟨j, h1, h2, h3, h4, h5⟩ := atI_get he
  have hl : z.cps.toList.length = z.length := by simp [Str.length]
  rw [hl] at h1 h4 h5
  have hn := line63
  exact tail_any (typeIs_str s z t) slot_str_getitem.lookup (getItem_str (c := c) (by
    have e1 : decide (i < -(2 ^ 63 : Int)) = false := decide_eq_false (by omega)
    have e2 : decide (i ≥ 2 ^ 63) = false := decide_eq_false (by omega)
    rw [e1, e2, Bool.or_false]) (by rw [h1]; simpa using h2) ⟨.str ⟨#[c]⟩, H, I.tok _, ⟨_, rfl⟩, q⟩) hs
noncomputable def rIx (K : PySem.W.Frag) : R2 := fun x y H Q => rIxL K x y H Q ∨ rIxT K x y H Q ∨ rIxS x y H Q
theorem ix_seq : IxR X (rIx X.K) := ix_list.or (ix_tup.or ix_str)
theorem mapSeq_set (its : List Value) (n j : Nat) (u : Value) : Obj.mapSeq (·.setIfInBounds j u) { cls := .type "list", data := .seq its.toArray n } = { cls := .type "list", data := .seq (its.set j u).toArray n } := by
  simp [Obj.mapSeq]
theorem Inv.lst {pins : List (Addr × Obj)} {σ : St} {H : Hp} {s : Shared} {p : Addr} {xs : List V} (I : Inv X pins σ H s) (h : H p = some (.lst xs)) :
    ∃ (its : List Value) (n : Nat), Vals xs its ∧ s.heap.get? p = some { cls := .type "list", data := .seq its.toArray n } ∧ xs.length ≤ sizeLine := by
  obtain ⟨z, its, n, r, e⟩ := I.hok p _ h
  exact ⟨its, n, r, e, z⟩
theorem Inv.lstUpd {pins : List (Addr × Obj)} {σ : St} {H : Hp} {s : Shared} {p : Addr} {xs ys : List V} {its its' : List Value} {n n' : Nat} {f : Obj → Obj} (I : Inv X pins σ H s) (h : H p = some (.lst xs))
    (ho : s.heap.get? p = some { cls := .type "list", data := .seq its.toArray n }) (hf : f { cls := .type "list", data := .seq its.toArray n } = { cls := .type "list", data := .seq its'.toArray n' }) (r : Vals ys its') (hz : ys.length ≤ sizeLine) (t : Nat) :
    Inv X pins σ (upd H p (.lst ys)) { s with heap := s.heap.update p f, toks := t } := by
  have e : (s.heap.update p f).get? p = some { cls := .type "list", data := .seq its'.toArray n' } := by
    rw [Heap.get?_update_self f ho (by rw [hf] <;> rfl), hf]
  refine I.write (x := p) (e := p) (by rw [h]; trivial) (.inl rfl) (fun b u hb q => (Heap.get?_update_other _ _ (Ne.symm hb)).trans q) ⟨_, e⟩ ?_
  exact ⟨hz, its', n', r, e⟩
noncomputable def rSetL : V → V → V → Hp → (Hp → Prop) → Prop := fun o i v H Q => ∃ p xs k j, o = .ref p ∧ i = .int k ∧ H p = some (.lst xs) ∧ ixN xs.length k = some j ∧ Q (upd H p (.lst (xs.set j v)))
theorem set_list : PSet X rSetL := by
  intro pins s σ H o i v ov iv u Q I ro ri rv h
  obtain ⟨p, xs, k, j, rfl, rfl, hp, hj, q⟩ := h
  cases ro
  obtain ⟨t, rfl⟩ := ri
  obtain ⟨its, n, r, ho, hz⟩ := I.lst hp
  obtain ⟨h1, h2, h3, h4⟩ := ixN_seq hj
  have hl := r.length
  have hn := line63
  have I' : Inv X pins σ (upd H p (.lst (xs.set j v))) { s with heap := s.heap.update p (Obj.mapSeq (·.setIfInBounds j u)) } :=
    I.lstUpd hp ho (mapSeq_set its n j u) (r.set rv j) (by rw [List.length_set]; exact hz) s.toks
  by_cases h0 : 0 ≤ k
  · have hk : k.toNat = j := by
      rw [seqIndex_of h0 h4] at h1
      exact Option.some.inj h1
    exact PySem.W.ki_setAt ho h0 (by omega) (by rw [List.size_toArray, ← hl]; exact h4) (by rw [hk]; exact ⟨_, I', q⟩)
  · have hk : (k + (its.toArray.size : Int)).toNat = j := by
      rw [seqIndex_neg (by omega) h3] at h1
      rw [List.size_toArray, ← hl]
      exact Option.some.inj h1
    exact PySem.W.ki_setBack ho (by omega) (by rw [List.size_toArray, ← hl]; exact h3) (by omega) (by rw [hk]; exact ⟨_, I', q⟩)
theorem slice_bounds (lo hi : Option Int) (n : Nat) : (sliceBounds lo hi none n).1 = ((HT.sIx n 0 lo : Nat) : Int) ∧ (sliceBounds lo hi none n).2.1 = ((HT.sIx n n hi : Nat) : Int) ∧ (sliceBounds lo hi none n).2.2 = 1 := by
  refine ⟨?_, ?_, rfl⟩
  · cases lo with
    | none => simp [sliceBounds, HT.sIx]
    | some i =>
      simp only [sliceBounds, HT.sIx, Option.getD_none, show (1 : Int) > 0 by decide, if_true]
      by_cases h : i < 0
      · simp only [h, if_true] <;> omega
      · simp only [h, if_false] <;> omega
  · cases hi with
    | none => simp [sliceBounds, HT.sIx]
    | some i =>
      simp only [sliceBounds, HT.sIx, Option.getD_none, show (1 : Int) > 0 by decide, if_true]
      by_cases h : i < 0
      · simp only [h, if_true] <;> omega
      · simp only [h, if_false] <;> omega
theorem slicePick_cut (its : List Value) (lo hi : Option Int) : slicePick its.toArray lo hi none = ((its.drop (HT.sIx its.length 0 lo)).take (HT.sIx its.length its.length hi - HT.sIx its.length 0 lo)).toArray := by
  obtain ⟨h1, h2, h3⟩ := slice_bounds lo hi its.toArray.size
  unfold slicePick
  rw [h1, h2, h3]
  simp only [sliceRange_one, pick_run, List.size_toArray] <;> rfl
noncomputable def rSlL (K : PySem.W.Frag) : V → Option Int → Option Int → Hp → VK → Prop := fun x lo hi H Q => ∃ a xs, x = .ref a ∧ SqL K H a xs ∧ ∀ p, H p = none → Q (.ref p) (upd H p (.lst (cutV xs lo hi)))
theorem sl_list : SlR X (rSlL X.K) := by
  intro pins s σ H x v vl vu lo hi sl Q I rx hs pl pu h
  obtain ⟨a, xs, rfl, hx, q⟩ := h
  cases rx
  obtain ⟨its, r, ht, hz⟩ := I.list hx
  have hlen := r.length
  refine ⟨"list", _, slot_list_getitem.lookup, ht.isList.typeIs, ?_⟩
  refine wpAny_getItem_list_slice ht.isList hs pl pu .none (by simp) ?_ (by rw [List.size_toArray] <;> omega)
  rw [slicePick_cut, ← hlen]
  refine ⟨.ref s.heap.objs.size, _, I.laid (t' := s.toks) (o := .lst (cutV xs lo hi)) (fun b ob q => Heap.get?_push_of_some _ q) (Nat.le_refl _) ?_, rfl, q _ (I.hok.fresh (Nat.le_refl _))⟩
  exact ⟨Nat.le_trans (cutV_length xs lo hi) hz, _, 0, (r.drop (HT.sIx xs.length 0 lo)).take (HT.sIx xs.length xs.length hi - HT.sIx xs.length 0 lo), Heap.get?_push_size _ rfl⟩
theorem call_len_seq : CallR X (.builtin "len") (fun xs H Q => ∃ p ys, xs = [.ref p] ∧ (SqL X.K H p ys ∨ SqT X.K H p ys) ∧ Q (.int ys.length) H) := by
  intro pins s σ H xs us Q I r h
  obtain ⟨p, ys, rfl, hq, q⟩ := h
  obtain ⟨u, rfl, rx⟩ := vals1 r
  cases rx
  have hn := line63
  rcases hq with hq | hq
  · obtain ⟨its, r', pl, hz⟩ := I.list hq
    have hlen := r'.length
    exact Calls.call_len_list pl.isList (by simp only [List.size_toArray] <;> omega) ⟨.int ys.length, H, I.tok _, ⟨s.toks + 1, by rw [List.size_toArray, hlen]⟩, q⟩
  · obtain ⟨its, r', pl, hz⟩ := I.tuple hq
    have hlen := r'.length
    exact len_tuple pl (by simp only [List.size_toArray] <;> omega) ⟨.int ys.length, H, I.tok _, ⟨s.toks + 1, by rw [List.size_toArray, hlen]⟩, q⟩
theorem call_list_of : CallR X (.type "list") (fun xs H Q => ∃ p ys, xs = [.ref p] ∧ (SqL X.K H p ys ∨ SqT X.K H p ys) ∧ ∀ l, H l = none → Q (.ref l) (upd H l (.lst ys))) := by
  intro pins s σ H xs us Q I r h
  obtain ⟨p, ys, rfl, hq, q⟩ := h
  obtain ⟨u, rfl, rx⟩ := vals1 r
  cases rx
  have fin : ∀ (its : List Value), Vals ys its → ys.length ≤ sizeLine → ∀ (h' : Heap) (c' : Nat), (∀ b o', s.heap.get? b = some o' → h'.get? b = some o') →
      h'.get? s.heap.objs.size = some { cls := .type "list", dict := none, data := .seq its.toArray c', slots := #[] } → EP X pins σ Q (.ref s.heap.objs.size) { s with heap := h' } := fun its r' hz h' c' kp e =>
    ⟨.ref s.heap.objs.size, _, I.laid (t' := s.toks) kp (Nat.le_refl _) (show ObjOk X.prog X.w _ h' _ (.lst ys) from ⟨hz, its, c', r', e⟩), rfl, q _ (I.hok.fresh (Nat.le_refl _))⟩
  rcases hq with hq | hq
  · obtain ⟨its, r', pl, hz⟩ := I.list hq
    have hlen := r'.length
    obtain ⟨o, ho, hc, n, hd⟩ := pl.isList
    exact call_list_seq p (.inl rfl) ho hc hd (fun h' c' kp e => fin its r' hz h' c' kp e) (by simp only [List.size_toArray] <;> omega)
  · obtain ⟨its, r', pl, hz⟩ := I.tuple hq
    have hlen := r'.length
    obtain ⟨o, ho, hc, n, hd⟩ := pl
    exact call_list_seq p (.inr rfl) ho hc hd (fun h' c' kp e => fin its r' hz h' c' kp e) (by simp only [List.size_toArray] <;> omega)
variable {o e : Expr} {es : List Expr} {to : TE} {t : TA} {name : Str} {apos cpos : Pos} {T id : String} {r : V → List V → Hp → VK → Prop}
/- xs.append(e), list.index on a module's tuple .. are MtR facts of 06m -/
end
end L2
namespace L2
open PySem PySem.Spec PyProof.Rows
noncomputable def MtM (X : Cx) (id : String) (r : V → List V → Hp → VK → Prop) : Prop :=
  ∀ (pins : List (Addr × Obj)) (s : Shared) (σ : St) (H : Hp) (x : V) (xs : List V) (v : Value) (us : List Value) (Q : VK), Inv X pins σ H s → RelV x v → Vals xs us → r x xs H Q →
    wpAny (model X.prog X.w) X.A (call (.builtin id) (v :: us)) (EP X pins σ Q) X.xe s
theorem Vals.one : ∀ {x : V} {us : List Value}, Vals [x] us → ∃ u, us = [u] ∧ RelV x u
  | _, _, .cons r .nil => ⟨_, rfl, r⟩
theorem Vals.rep {xs : List V} {us : List Value} (h : Vals xs us) : ∀ k : Nat, Vals (List.replicate k xs).flatten (List.replicate k us).flatten
  | 0 => .nil
  | k + 1 => by
    rw [List.replicate_succ, List.replicate_succ, List.flatten_cons, List.flatten_cons]
    exact Vals.append h (Vals.rep h k)
theorem foldl_rep (its : List Value) : ∀ (k : Nat) (acc : List Value),
    List.foldl (fun x1 x2 => x1 ++ x2) acc.toArray (List.replicate k its.toArray) = (acc ++ (List.replicate k its).flatten).toArray
  | 0, acc => by simp
  | k + 1, acc => by
    have e : acc.toArray ++ its.toArray = (acc ++ its).toArray := by simp
    have e2 : (acc ++ its) ++ (List.replicate k its).flatten = acc ++ (List.replicate (k + 1) its).flatten := by
      rw [List.replicate_succ, List.flatten_cons, List.append_assoc]
    rw [← e2, ← foldl_rep its k (acc ++ its), ← e, List.replicate_succ, List.foldl_cons]
section
variable {X : Cx} {pins : List (Addr × Obj)} {σ : St} {H : Hp} {s : Shared} {l b : Addr} {xs ys zs : List V}
theorem Inv.lset {its its' : List Value} {n : Nat} {f : Array Value → Array Value} {t' : Nat} (I : Inv X pins σ H s) (hH : H l = some (.lst xs))
    (e : s.heap.get? l = some { cls := .type "list", data := .seq its.toArray n }) (hf : f its.toArray = its'.toArray) (hv : Vals ys its') (hz : ys.length ≤ sizeLine) :
    Inv X pins σ (upd H l (.lst ys)) { s with heap := s.heap.update l (Obj.mapSeq f), toks := t' } := by
  have q := PySem.IsL.update e f
  rw [hf] at q
  refine I.write (x := l) (e := l) (by rw [hH]; exact trivial) (.inl rfl) (fun b' u hb hu => (Heap.get?_update_other s.heap (Obj.mapSeq f) (Ne.symm hb)).trans hu) ⟨_, q⟩ ?_
  exact ⟨hz, its', _, hv, q⟩
theorem Inv.lnew {its : List Value} {t' : Nat} (I : Inv X pins σ H s) (hv : Vals ys its) (hz : ys.length ≤ sizeLine) :
    Inv X pins σ (upd H s.heap.objs.size (.lst ys)) { s with heap := s.heap.push { cls := .type "list", data := .seq its.toArray }, toks := t' } :=
  I.laid (fun _ _ q => Heap.get?_push_of_some _ q) (Nat.le_refl _) ⟨hz, its, 0, hv, Heap.get?_push_size _ rfl⟩
theorem Inv.fresh (I : Inv X pins σ H s) : H s.heap.objs.size = none := I.hok.fresh (Nat.le_refl _)
theorem Inv.lstM (I : Inv X pins σ H s) (hH : H l = some (.lst xs)) : xs.length ≤ sizeLine ∧ ∃ (its : List Value) (n : Nat), Vals xs its ∧ xs.length = its.length ∧ s.heap.get? l = some { cls := .type "list", data := .seq its.toArray n } := by
  obtain ⟨z, its, n, r, e⟩ := I.hok l _ hH
  exact ⟨z, its, n, r, r.length, e⟩
theorem notLongL {n : Nat} (h : n ≤ sizeLine) : Builtin.List.listTooLong n = false := by
  unfold Builtin.List.listTooLong
  exact decide_eq_false (by omega)
end
section
variable {X : Cx}
noncomputable def rAppend : V → List V → Hp → VK → Prop := fun x vs H Q => ∃ l xs y, x = .ref l ∧ vs = [y] ∧ H l = some (.lst xs) ∧ xs.length < sizeLine ∧ Q .non (upd H l (.lst (xs ++ [y])))
theorem mt_append : MtM X "list.append" rAppend := by
  intro pins s σ H x vs v us Q I rx rv h
  obtain ⟨l, xs, y, rfl, rfl, hH, hz, q⟩ := h
  cases rx
  obtain ⟨u, rfl, ru⟩ := rv.one
  obtain ⟨z, its, n, r, hl, e⟩ := I.lstM hH
  refine call_meets F.slot_list_append ⟨_, e, rfl⟩ F.entry_list_append (F.args_list_append_2 _ _) (PySem.list_append l its.toArray n u (by rw [List.size_toArray]; omega)) ⟨e, ?_⟩
  refine ⟨.non, _, I.lset (its' := its ++ [u]) hH e (by simp) (r.append (.cons ru .nil)) ?_, rfl, q⟩
  rw [List.length_append, List.length_singleton]
  omega
noncomputable def rCat : R2 := fun x y H Q => ∃ l b xs zs, x = .ref l ∧ y = .ref b ∧ H l = some (.lst xs) ∧ H b = some (.lst zs) ∧ xs.length + zs.length ≤ sizeLine ∧ ∀ p, H p = none → Q (.ref p) (upd H p (.lst (xs ++ zs)))
theorem op_cat : OpR X (binaryOp .Add) rCat := by
  intro pins s σ H x y v u Q I rx ry h
  obtain ⟨l, b, xs, zs, rfl, rfl, hH, hB, hz, q⟩ := h
  cases rx
  cases ry
  obtain ⟨z, its, n, r, hl, e⟩ := I.lstM hH
  obtain ⟨z2, its2, n2, r2, hl2, e2⟩ := I.lstM hB
  refine PySem.P.add_list e e2 ?_ (by rw [List.size_toArray, List.size_toArray]; omega)
  have ea : its.toArray ++ its2.toArray = (its ++ its2).toArray := by simp
  rw [ea]
  exact ⟨.ref _, _, I.lnew (t' := s.toks) (r.append r2) (by rw [List.length_append]; omega), rfl, q _ I.fresh⟩
noncomputable def rRep : R2 := fun x y H Q => ∃ l k xs, x = .ref l ∧ y = .int k ∧ H l = some (.lst xs) ∧ -(2 ^ 63) ≤ k ∧ k < 2 ^ 63 ∧ xs.length * k.toNat ≤ sizeLine ∧
  ∀ p, H p = none → Q (.ref p) (upd H p (.lst (List.replicate k.toNat xs).flatten))
theorem len_rep {α : Type} (xs : List α) (k : Nat) : (List.replicate k xs).flatten.length = k * xs.length := by
  induction k with
  | zero => simp
  | succ k ih => rw [List.replicate_succ, List.flatten_cons, List.length_append, ih, Nat.succ_mul, Nat.add_comm]
theorem op_rep : OpR X (binaryOp .Mult) rRep := by
  intro pins s σ H x y v u Q I rx ry h
  obtain ⟨l, k, xs, rfl, rfl, hH, h1, h2, hz, q⟩ := h
  cases rx
  obtain ⟨t, rfl⟩ := ry
  obtain ⟨z, its, n, r, hl, e⟩ := I.lstM hH
  have hlen : its.toArray.size * k.toNat ≤ sizeLine := by rw [List.size_toArray, ← hl]; exact hz
  have hcap : ¬ its.toArray.size * k.toNat > (2 ^ 63 - 1) / 8 := by
    have : (sizeLine : Nat) ≤ (2 ^ 63 - 1) / 8 := by decide
    omega
  have hfit : ¬ (!Builtin.List.listFitsIndex k) = true := by
    rw [fitsIndex_both h1 h2]
    exact Bool.false_ne_true
  have hlong : ¬ Builtin.List.listTooLong (its.toArray.size * k.toNat) = true := by
    rw [notLongL hlen]
    exact Bool.false_ne_true
  have hnew : List.foldl (fun x1 x2 => x1 ++ x2) #[] (List.replicate (if its.toArray.isEmpty = true then 0 else k.toNat) its.toArray) = (List.replicate k.toNat its).flatten.toArray := by
    have f0 : ∀ m : Nat, List.foldl (fun x1 x2 => x1 ++ x2) #[] (List.replicate m its.toArray) = (List.replicate m its).flatten.toArray := fun m => by
      have := foldl_rep its m []
      rw [List.nil_append] at this
      exact this
    rw [f0]
    cases its with
    | nil => simp
    | cons a r' => rw [if_neg (by simp)]
  refine wpAny_binaryOp_repeat_ref (T := "list") (U := "int") (by decide) ⟨_, e, rfl⟩ (fun s' => typeIs_int s' k t) noFill_list_mul F.fills_int_mul F.slot_int_rmul repeat_list F.slot_int_index.lookup
    (call_meets F.slot_int_rmul (typeIs_int s k t) F.entry_int_rmul (F.args_int_rmul_2 _ _) (int___rmul___int_list k t l its.toArray n)
      ⟨e, rfl, ⟨_, e, rfl⟩, call_meets F.slot_list_mul ⟨_, e, rfl⟩ F.entry_list_mul (F.args_list_mul_2 _ _) (AutoListH.list___mul___list_int_3 l its.toArray n k t hfit hcap hlong) ⟨e, ?_⟩⟩)
  rw [hnew]
  exact ⟨.ref _, _, I.lnew (t' := s.toks) (r.rep k.toNat) (by rw [len_rep, Nat.mul_comm]; exact hz), rfl, q _ I.fresh⟩
end
section
variable {prog : Program} {w : World} {A : Around} {E : Value → Shared → Prop} {s : Shared}
end
section
variable {X : Cx}
end
end L2
namespace Att
open PySem PySem.W PySem.Calls PyProof.Rows
theorem ints_of_wellAll {P : Params} {h : Heap} : ∀ (ns : List Int) (vs : List Value), WellAll P h vs (ns.map WData.int) → IntsAre vs ns := by
  intro ns
  induction ns with
  | nil =>
    intro vs w
    rw [List.map_nil] at w
    cases w
    exact .nil
  | cons n ns ih =>
    intro vs w
    rw [List.map_cons] at w
    cases w with
    | cons a b =>
      cases a
      exact .cons _ _ (ih _ b)
theorem script_of {l : OpenLaw} {n : Nat} (hn : l.most = some n) {P : Params} {h : Heap} {args : List WData} {vals : List Value}
    (hpre : l.row.toRowW.claim.pre args = true) (hwl : WellAll P h vals args) :
    ∃ a vs ns, vals = [Value.ref a] ∧ args = [WData.list (ns.map WData.int)] ∧ h.get? a = some { cls := .type "list", data := .seq vs.toArray } ∧ IntsAre vs ns ∧ ns.length ≤ n := by
  have hsh : WShape.hasAll [] args [.list .int] = true := (pre_splitW hpre).1
  have hc : l.pre.holds [] { args := args } = true := (pre_splitW hpre).2
  obtain ⟨d, r, rfl, h1, h2⟩ := hasAllW_cons hsh
  obtain rfl := hasAllW_nil h2
  obtain ⟨xs, rfl, h3⟩ := hasW_list h1
  obtain ⟨ns, rfl⟩ := items_int h3
  have hlen : ns.length ≤ n := by
    unfold OpenLaw.pre at hc
    have h4 : (WTm.not (.lt (.lit (.int (n : Int))) (.len (.arg 0)))).holds [] { args := [.list (ns.map .int)] } = true := by
      have h4 := (holds_andW hc).1
      rw [hn] at h4
      exact h4
    have h5 := condW_of h4 (w_not (w_lt w_lit (w_len_list (w_arg rfl))))
    rw [List.length_map] at h5
    refine Nat.le_of_not_lt fun q => ?_
    have q' : (n : Int) < ((ns.length : Nat) : Int) := by omega
    first
      | (rw [decide_eq_true q'] at h5; exact absurd h5 (by decide))
      | (simp at h5; omega)
  cases hwl with
  | cons w1 w2 =>
    cases w2
    cases w1 with
    | list ho hall => exact ⟨_, _, ns, rfl, rfl, ho, ints_of_wellAll ns _ hall, hlen⟩
theorem post_true (l : OpenLaw) (args : List WData) : l.row.toRowW.claim.post args (.bool true) args = true :=
  postW_of (r := l.row.toRowW) (X := (true == true))
    (show WShape.has [] (.bool true) .bool = true by first | rfl | decide | simp [WShape.has, WShape.arms, WShape.armsAll])
    (show (WTm.eq .res (.lit (.bool true))).value [] { args := args, res := some (.bool true), after := args } = some (.bool (true == true)) from w_eq_bool (w_res rfl) w_lit) rfl
theorem attach_call {l : OpenLaw} {n : Nat} {q : Program} {loose : List Str} {XP : (Str → Option Value) → Heap → Prop} {YP : World → Heap → Prop} {d : DefRec}
    (hn : l.most = some n) (hdf : d.params.defaults = [])
    (call : ∀ (w : World) (s₀ s₁ : Shared) (mg mb : Str → Option Value) (fa : Addr) (o : Obj) (pm cd doc : Value) (a : Addr) (vs : List Value) (ns : List Int),
      Ground q loose [] XP w s₀ mg mb s₁.heap → YP w s₁.heap →
      s₁.heap.get? fa = some o → o.data = .func (docDef d.name d.params d.body d.scope pm cd doc) → s₁.heap.CodeRec cd d.name → mg d.name = some (.ref fa) →
      s₁.heap.get? a = some { cls := .type "list", data := .seq vs.toArray } → IntsAre vs ns → ns.length ≤ n → s₁.gens = #[] →
      codeAny (model l.prog w) callerA (.call (.ref fa) ⟨[.ref a], []⟩) (fun r s' => r = .ok (.ret (.bool true)) ∧ OldK s₁.heap s'.heap ∧ s'.os = s₁.os ∧ AllBare s'.gens) s₁) :
    WalkO q loose XP YP l.row.toRowW d [] (fun f vs => PySem.call f vs) := by
  intro w s₀ s₁ mg mb G Y fa o pm cd doc dV kV ho hd hcd hD hmg hg args vals as hpre hlay hrd hwl hlo
  obtain rfl : dV = .none := Dflts.none hD hdf
  obtain rfl : kV = .none := Dflts.noKw hD
  obtain ⟨a, vs, ns, rfl, rfl, hobj, hints, hlen⟩ := script_of hn hpre hwl
  refine enter_call (codeAny_mono (call w s₀ s₁ mg mb fa o pm cd doc a vs ns G Y ho (fd_plain hd) hcd hmg hobj hints hlen hg) fun r s' hq => ?_)
  obtain ⟨rfl, h2, h3, h4⟩ := hq
  exact ⟨.inl ⟨.bool true, .bool true, [], rfl, fun _ => rfl, .bool true, post_true l _, fun _ => ⟨List.Pairwise.nil, fun _ hm => (nomatch hm)⟩⟩, h2, h3, h4⟩
section
variable {prog : Program} {w : World} {A : Around} {E : Value → Shared → Prop} {s : Shared} {K : Frag}
end
end Att
namespace L2
open PySem PySem.Spec PyProof.Rows
theorem vals_ints : ∀ {vs : List Value} {ns : List Int}, IntsAre vs ns → Vals (ns.map V.int) vs
  | _, _, .nil => .nil
  | _, _, .cons n t h => .cons ⟨t, rfl⟩ (vals_ints h)
noncomputable def Only (H : Hp) : Prop := ∀ b, H b = none ∨ ∃ o xs, H b = some (.frz o (.lst xs))
theorem law_call {P : Program} {w : World} {K : PySem.W.Frag} {mg mb : Str → Option Value} {CX : CXT} {k : Nat} {fa a : Addr} {fd : FuncData} {x : Str} {sp : Sp} {s₁ : Shared} {vs : List Value} {ns : List Int}
    (KX : K.In s₁.heap) (hns : s₁.heap.Ns mainGlobals mg) (hb : s₁.heap.Ns builtinsNs mb) (hbb : ∀ x : Str, x ≠ "__name__" → mb x = bootBuiltins x) (hlim : s₁.heap.NoLimit) (hg : s₁.gens = #[])
    (ha : s₁.heap.get? a = some { cls := .type "list", data := .seq vs.toArray }) (hi : IntsAre vs ns) (hl : ns.length ≤ sizeLine) (hr : Room k callerA)
    (F : ∀ base : Heap, K.In base → base.Ns mainGlobals mg → FnOk P w K mg base CX k fa fd [x] sp) (hbind : ∀ (s : Shared) (u : Value), BindsTo s fd ⟨[u], []⟩ [(x, u)])
    (hsp : ∀ H : Hp, Only H → SqL K H a (ns.map V.int) → sp [.ref a] H (fun v _ => v = .bl true) fun _ _ _ => False)
    (hCX : ∀ H e s', CX [] H s₁ (fun _ _ _ => False) e s' → False) :
    codeAny (model P w) callerA (.call (.ref fa) ⟨[.ref a], []⟩) (fun r s' => r = .ok (.ret (.bool true)) ∧ OldK s₁.heap s'.heap ∧ s'.os = s₁.os ∧ AllBare s'.gens) s₁ := by
  have rv := vals_ints hi
  have lenV := hi.length
  have core : ∀ H : Hp, Only H → SqL K H a (ns.map V.int) → HOk P w H s₁.heap → (∀ b, H b ≠ none → b = a) → (H a ≠ none → K.lookup a = none) →
      codeAny (model P w) callerA (.call (.ref fa) ⟨[.ref a], []⟩) (fun r s' => r = .ok (.ret (.bool true)) ∧ OldK s₁.heap s'.heap ∧ s'.os = s₁.os ∧ AllBare s'.gens) s₁ := by
    intro H hO hS hok hA hK
    have base_of : ∀ {b : Addr} {o : Obj}, s₁.heap.get? b = some o → H b = none → (hidT s₁.heap H).get? b = some o := fun e n => hidT_get e n
    have noA : ∀ {b : Addr} {o : Obj} {es : Array DictEntry} {ep : Nat}, s₁.heap.get? b = some o → o.data = .dict es ep → H b = none := fun {b o es ep} e d => by
      cases q : H b with
      | none => rfl
      | some u =>
        have e' : b = a := hA b (by rw [q]; simp)
        subst e'
        rw [ha] at e; cases e
        have d' : Data.seq vs.toArray _ = Data.dict es ep := d
        cases d'
    have nsK : ∀ {b : Addr} {m : Str → Option Value}, s₁.heap.Ns b m → (hidT s₁.heap H).Ns b m := fun {b m} ⟨o, es, ep, e, d, r⟩ => ⟨o, es, ep, base_of e (noA e d), d, r⟩
    have hKb : K.In (hidT s₁.heap H) := fun b o e => base_of (KX b o e) (by
      cases q : H b with
      | none => rfl
      | some u =>
        have e' : b = a := hA b (by rw [q]; simp)
        subst e'
        rw [hK (by rw [q]; simp)] at e; cases e)
    have hM : Mod K mg (hidT s₁.heap H) := ⟨hKb, nsK hns, ⟨mb, nsK hb, hbb⟩, let ⟨mc, h1, h2⟩ := hlim; ⟨mc, nsK h1, h2⟩⟩
    have e0 : Env0 P w K mg (hidT s₁.heap H) callerA [] s₁ H := ⟨rfl, hM, fun b o e => of_hidT e, Nat.le_of_eq (hidT_size _ _), trivial, fun b hb => absurd (show b ∈ ([] : List Addr) from hb) (by simp), hok, .of_eq hg⟩
    refine codeAny_mono ((F _ hKb (nsK hns)).run callerA [] s₁ H ⟨[.ref a], []⟩ [.ref a] [.ref a] _ _ hr e0 (hbind s₁ (.ref a)) (.cons rfl .nil) (hsp H hO hS)) fun r s' h => ?_
    cases r with
    | error e => exact (hCX H e s' h).elim
    | ok fl =>
      cases fl with
      | next => exact False.elim h
      | brk => exact False.elim h
      | cont => exact False.elim h
      | ret u =>
        obtain ⟨v, H', os, bare, un, hok', r', q⟩ := h
        have q' : v = .bl true := q
        subst q'
        obtain rfl : u = Value.bool true := r'
        refine ⟨rfl, OldK.of_keep fun b o e => ?_, os, bare⟩
        cases q : H b with
        | none => exact un.keep b o e q (by intro z; exact absurd (show b ∈ ([] : List Addr) from z) (by simp)) (by simp)
        | some u =>
          rcases hO b with z | ⟨ob, xs, z⟩
          · rw [q] at z; cases z
          · have z2 := un.frzs b ob _ z
            obtain ⟨e1, _⟩ := hok b _ z
            obtain ⟨e2, _⟩ := hok' b _ z2
            rw [e] at e1; cases e1
            exact e2
  cases hk : K.lookup a with
  | some o =>
    have e := KX a o hk
    rw [ha] at e
    cases e
    refine core (fun _ => none) (fun _ => .inl rfl) (.inr ⟨_, vs.toArray, _, hk, rfl, rfl, rfl, by rw [List.size_toArray, lenV]; exact hl, by simpa using rv⟩) (fun b u z => by have z' : (none : Option HO) = some u := z; cases z') (fun b z => absurd rfl z) fun z => absurd rfl z
  | none =>
    refine core (fun b => if b = a then some (.frz { cls := .type "list", data := .seq vs.toArray } (.lst (ns.map V.int))) else none) (fun b => ?_) (.inl (.inr ⟨{ cls := .type "list", data := .seq vs.toArray }, if_pos rfl⟩)) (fun b u z => ?_) (fun b z => ?_) fun _ => hk
    · by_cases hb : b = a
      · exact .inr ⟨_, _, if_pos hb⟩
      · exact .inl (if_neg hb)
    · by_cases hb : b = a
      · have z' := (if_pos hb).symm.trans z
        cases z'
        subst hb
        exact ⟨ha, by rw [List.length_map]; exact hl, vs, _, rv, ha⟩
      · have z' := (if_neg hb).symm.trans z
        cases z'
    · by_cases hb : b = a
      · exact hb
      · exact absurd (if_neg hb) z
end L2
namespace L2
open PySem PySem.Spec PyProof.Rows
theorem walk_of {l : PySem.W.OpenLaw} {n k : Nat} {q : Program} {loose : List Str} {XP : (Str → Option Value) → Heap → Prop} {YP : World → Heap → Prop} {d : DefRec} {K : Params → PySem.W.Frag} {CX : World → CXT} {sp : World → Sp} {x : Str}
    (hn : l.most = some n) (hn2 : n ≤ sizeLine) (hdf : d.params.defaults = []) (hr : Room k callerA)
    (hY : ∀ (w : World) (h : Heap), YP w h → (K w.params).In h)
    (F : ∀ (w : World) (mg : Str → Option Value) (fa : Addr) (h : Heap), (K w.params).In h → h.Ns mainGlobals mg → mg d.name = some (.ref fa) →
      ∃ fd : FuncData, (∀ (s : Shared) (u : Value), BindsTo s fd ⟨[u], []⟩ [(x, u)]) ∧
        ∀ base : Heap, (K w.params).In base → base.Ns mainGlobals mg → FnOk l.prog w (K w.params) mg base (CX w) k fa fd [x] (sp w))
    (hsp : ∀ (w : World) (H : Hp) (a : Addr) (ns : List Int), ns.length ≤ n → Only H → SqL (K w.params) H a (ns.map V.int) → sp w [.ref a] H (fun v _ => v = .bl true) fun _ _ _ => False)
    (hCX : ∀ (w : World) (H : Hp) (s : Shared) (e : Value) (s' : Shared), CX w [] H s (fun _ _ _ => False) e s' → False) :
    PySem.W.WalkO q loose XP YP l.row.toRowW d [] (fun f vs => PySem.call f vs) := by
  refine Att.attach_call hn hdf fun w s₀ s₁ mg mb fa o pm cd doc a vs ns G Y ho hd hcd hmg hobj hints hlen hg => ?_
  have KX := hY w _ Y
  obtain ⟨fd, hb, hF⟩ := F w mg fa _ KX G.T.g hmg
  exact law_call KX G.T.g G.T.b G.T.builtins G.T.nolimit hg hobj hints (Nat.le_trans hlen hn2) hr hF hb (fun H hO hS => hsp w H a ns hlen hO hS) fun H e s' => hCX w H s₁ e s'
end L2
/- THE LAST THEOREM (shape; LID, My.* are yours):
   My.Adr: a structure of the addresses that your layer names (classes, functions); My.Txt K t: a structure (Prop) of the equations over K;
   My.txt_mk : {K} {implicit addresses ..} (e1 : nsIn K mainGlobals "law" = some (some (.ref f))) (e2 : K.lookup f = some ⟨oc, od, .func (fnOf "law" "law" params body scope dV kV doc pm an cdv ct), sl⟩) (e3 : codeIn K cdv "law" = true) .. : ∃ t, My.Txt K t
set_option maxRecDepth 100000 in
set_option maxHeartbeats 0 in
theorem PySem.Challenge.cw_LID_holds : PySem.Challenge.rw_LID.Holds := by
  w_on; o_law; k_head; (case hw => w_witness2)
  k_fill
  refine L2.walk_of (l := PySem.Challenge.rw_LID) (n := 63) (k := 40) (x := "script") (CX := fun w => ..) (sp := fun _ => My.sp_law) rfl (by decide) rfl ⟨rfl, by decide, by decide⟩ (fun w h Y => PySem.W.kIn_of Y) ?F ?S ?C
  case F =>
    intro w mg fa h KX G hmg
    have T : ∃ t, My.Txt (L2.KOf KX) t := by
      dsimp only [L2.KOf]                          -- K must stand as «<heap const> w.params» for k_is
      refine' My.txt_mk ?e1 ?e2 ?e3 ..
      (case e1 => PySem.W.k_is)                    -- in the order: a name -> its address -> its object -> its parts
      (case e2 => PySem.W.k_is)
      ..
    obtain ⟨t, T⟩ := T
    have e0 := hmg.symm.trans (PySem.W.mg_of KX G T.law)
    cases e0                                       -- fa is the law's own address
    exact ⟨_, fun s u => .of_eq rfl, fun base kb nb => My.law_fn T kb nb⟩     -- if «.of_eq rfl» comes too early: refine' ⟨_, ?b, fun base kb nb => My.law_fn T kb nb⟩; exact fun s u => .of_eq rfl
  case S => exact fun w H a ns hl hO hS => ..
  case C => exact ..
(the tactic k_is has no namespace: write k_is) -/
namespace L2
open PySem PySem.Spec PyProof.Rows
noncomputable def inClass (s : Stmt) (j : Nat) : Stmt := match s with
  | .ClassDef _ _ _ body _ _ _ _ _ _ _ => body.getD j (.Pass ⟨0, 0, 0, 0⟩)
  | _ => .Pass ⟨0, 0, 0, 0⟩
noncomputable def defArgs (s : Stmt) : Arguments := match s with
  | .FunctionDef _ a _ _ _ _ _ _ _ _ => a
  | _ => { posonlyargs := [], args := [], vararg := none, kwonlyargs := [], kw_defaults := [], kwarg := none, defaults := [] }
noncomputable def defBody (s : Stmt) : List Stmt := match s with
  | .FunctionDef _ _ b _ _ _ _ _ _ _ => b
  | _ => []
noncomputable def defScope (s : Stmt) : Scope := match s with
  | .FunctionDef _ _ _ _ _ _ sc _ _ _ => sc
  | _ => { kind := .function, names := [], isGenerator := false, isCoroutine := false }
noncomputable abbrev CX0 : CXT := fun _ _ _ _ _ _ => False
noncomputable abbrev E0 : XK := fun _ _ _ => False
theorem pass0 {X : Cx} : Passes CX0 X E0 := fun _ _ _ _ _ _ _ h => h.elim
structure Fun (K : PySem.W.Frag) (x qual : Str) (st : Stmt) (f : Addr) (fd : FuncData) : Prop where
  ex : ∃ (oc : Value) (od : Option Addr) (kV doc pm : Value) (an : Option Addr) (cdv ct : Value) (osl : Array (Option Value)),
    fd = PySem.W.fnOf x qual (defArgs st) (defBody st) (defScope st) .none kV doc pm an cdv ct ∧ K.lookup f = some ⟨oc, od, .func fd, osl⟩ ∧ PySem.W.codeIn K cdv qual = true
  kp : PySem.W.keepIn K (.ref f) = true
section
variable {P : Program} {w : World} {K : PySem.W.Frag} {mg : Str → Option Value} {base : Heap}
theorem Fun.ok {x qual : Str} {st : Stmt} {f : Addr} {fd : FuncData} {N ps : List Str} {k : Nat} {sp : Sp} (F : Fun K x qual st f fd) (S : FnScope N ps (defScope st)) (len : ∀ vs H Q E, sp vs H Q E → vs.length = ps.length)
    (hbody : ∀ (cdv : Value) (A : Around) (outer : List Env) (s : Shared) (H : Hp) (vs : List V) (Q : VK) (E : XK), Room k (A.deeper (envOfC qual (defScope st) s.heap.objs.size f cdv)) → sp vs H Q E →
      ∃ t, PSs (cxOf CX0 P w K mg base N qual (defScope st) f cdv A outer s H E).nox (defBody st) t ∧ t { nx := fun _ H' => Q .non H', rt := Q } (start N vs) H) : FnOk P w K mg base CX0 (k + 1) f fd ps sp := by
  obtain ⟨oc, od, kV, doc, pm, an, cdv, ct, osl, rfl, lk, hcd⟩ := F.ex
  refine fn_of lk hcd S len fun A outer s H vs Q E hr hsp => ?_
  obtain ⟨t, h, q⟩ := hbody cdv A outer s H vs Q E hr hsp
  exact ⟨t, h.nox, q⟩
theorem Fun.binds {x qual : Str} {st : Stmt} {f : Addr} {fd : FuncData} {ps : List Str} (F : Fun K x qual st f fd)
    (h : ∀ (kV doc pm : Value) (an : Option Addr) (cdv ct : Value) (us : List Value), us.length = ps.length → bindArgs (PySem.W.fnOf x qual (defArgs st) (defBody st) (defScope st) .none kV doc pm an cdv ct) ⟨us, []⟩ = pure (ps.zip us)) : Binds K fd ps [] := by
  obtain ⟨oc, od, kV, doc, pm, an, cdv, ct, osl, rfl, lk, hcd⟩ := F.ex
  exact .all (h kV doc pm an cdv ct)
theorem fun_mk {x qual : Str} {st : Stmt} {f : Addr} {oc : Value} {od an : Option Addr} {osl : Array (Option Value)} {kV doc pm cdv ct : Value} (l : K.lookup f = some ⟨oc, od, .func (PySem.W.fnOf x qual (defArgs st) (defBody st) (defScope st) .none kV doc pm an cdv ct), osl⟩)
    (c : PySem.W.codeIn K cdv qual = true) (k : PySem.W.keepIn K (.ref f) = true) : Fun K x qual st f (PySem.W.fnOf x qual (defArgs st) (defBody st) (defScope st) .none kV doc pm an cdv ct) := ⟨⟨oc, od, kV, doc, pm, an, cdv, ct, osl, rfl, l, c⟩, k⟩
end
section
variable {X : Cx}
theorem pv (i : Nat) {x : Str} {pos : Pos} (hN : X.N[i]? = some x := by rfl) (hv : Vis X.env.scope x := by first | exact Or.inl rfl | exact Or.inr (Or.inl rfl) | exact Or.inr (Or.inr rfl)) (hd : (x == ("__debug__" : Str)) = false := by decide)
    (hcd : (x == ("__classdict__" : Str)) = false := by decide) : PE X (.Name x pos) (tVar i) := pe_var hN hv hd hcd
end
theorem iteF {A B : Prop} (h : B) : if false = true then A else B := by
  rw [if_neg Bool.false_ne_true]
  exact h
theorem iteT {A B : Prop} (h : A) : if true = true then A else B := by
  rw [if_pos rfl]
  exact h
noncomputable def Same (H H' : Hp) : Prop := ∀ b o, H b = some o → H' b = some o
theorem Same.refl (H : Hp) : Same H H := fun _ _ h => h
theorem Same.trans {H H1 H2 : Hp} (a : Same H H1) (b : Same H1 H2) : Same H H2 := fun c o h => b c o (a c o h)
theorem Same.free {H H' : Hp} (e : Same H H') {l : Addr} (h : H' l = Option.none) : H l = Option.none := by
  cases q : H l with
  | none => rfl
  | some o =>
    rw [e l o q] at h
    cases h
theorem Same.seq {K : PySem.W.Frag} {H H' : Hp} {a : Addr} {xs : List V} (e : Same H H') (h : SqL K H a xs) : SqL K H' a xs := by
  rcases h with (h | ⟨o, h⟩) | h
  · exact .inl (.inl (e _ _ h))
  · exact .inl (.inr ⟨o, e _ _ h⟩)
  · exact .inr h
end L2
set_option maxHeartbeats 4000000
namespace L2
open PySem PySem.Spec PyProof.Rows
noncomputable def addFree (env : Env) : List (Str × NameKind) → List (Str × Addr) → List (Str × Addr)
  | [], acc => acc
  | (n, k) :: r, acc => addFree env r (if k == .free then (n, (env.cells.lookup n).getD 0) :: acc else acc)
theorem closure_go {env : Env} (f : Str × NameKind → List (Str × Addr) → Sem (ForInStep (List (Str × Addr))))
    (hf : ∀ n k c, f (n, k) c = if k == .free then (do let a ← cellOf env n; pure (.yield ((n, a) :: c))) else pure (.yield c)) :
    ∀ (names : List (Str × NameKind)) (acc : List (Str × Addr)), (∀ p ∈ names, p.2 = .free → ∃ c, env.cells.lookup p.1 = some c) → forIn names acc f = pure (addFree env names acc)
  | [], acc, _ => by rw [List.forIn_nil]; rfl
  | (n, k) :: r, acc, h => by
    rw [List.forIn_cons, hf]
    have ih := closure_go f hf r
    have hr : ∀ p ∈ r, p.2 = .free → ∃ c, env.cells.lookup p.1 = some c := fun p hp => h p (List.mem_cons_of_mem _ hp)
    unfold addFree
    cases hk : k == NameKind.free with
    | true =>
      obtain ⟨c, hc⟩ := h (n, k) List.mem_cons_self (by simpa using hk)
      have hc' : env.cells.lookup n = some c := hc
      simp only [if_true, cellOf, hc', pure_bind, Option.getD_some]
      exact ih _ hr
    | false =>
      simp only [Bool.false_eq_true, if_false, pure_bind]
      exact ih _ hr
theorem closureFor_eq {scope : Scope} {env : Env} (h : ∀ p ∈ scope.names, p.2 = .free → ∃ c, env.cells.lookup p.1 = some c) : closureFor scope env = pure (addFree env scope.names []) := by
  simp only [closureFor]
  rw [closure_go (env := env) _ (fun n k c => by cases hk : k == NameKind.free <;> simp [hk]) scope.names [] h]
  rfl
theorem addFree_lookup {env : Env} {x : Str} : ∀ (names : List (Str × NameKind)) (acc : List (Str × Addr)),
    (addFree env names acc).lookup x = if (x, NameKind.free) ∈ names then some ((env.cells.lookup x).getD 0) else acc.lookup x
  | [], acc => by simp [addFree]
  | (n, k) :: r, acc => by
    unfold addFree
    rw [addFree_lookup r]
    by_cases hr : (x, NameKind.free) ∈ r
    · rw [if_pos hr, if_pos (List.mem_cons_of_mem _ hr)]
    · rw [if_neg hr]
      by_cases hk : k = NameKind.free
      · subst hk
        by_cases hx : x = n
        · subst hx
          have hp : (x, NameKind.free) ∈ (x, NameKind.free) :: r := List.mem_cons_self
          rw [if_pos hp]
          simp [List.lookup_cons]
        · have hb : (x == n) = false := beq_eq_false_iff_ne.mpr hx
          have hn : ¬ (x, NameKind.free) ∈ (n, NameKind.free) :: r := fun hm => by
            rcases List.mem_cons.mp hm with e | e
            · exact hx (Prod.mk.inj e).1
            · exact hr e
          rw [if_neg hn]
          simp [List.lookup_cons, hb]
      · have hkb : (k == NameKind.free) = false := by simpa using hk
        have hn : ¬ (x, NameKind.free) ∈ (n, k) :: r := fun hm => by
          rcases List.mem_cons.mp hm with e | e
          · exact hk (Prod.mk.inj e).2.symm
          · exact hr e
        rw [if_neg hn]
        simp [hkb]
theorem addFree_some {env : Env} {x : Str} {c : Addr} {names : List (Str × NameKind)} (h : ∀ p ∈ names, p.2 = .free → ∃ c, env.cells.lookup p.1 = some c) (e : (addFree env names []).lookup x = some c) : env.cells.lookup x = some c := by
  rw [addFree_lookup] at e
  split at e
  · rename_i hm
    obtain ⟨c', hc⟩ := h _ hm rfl
    have hc' : env.cells.lookup x = some c' := hc
    rw [hc'] at e ⊢
    exact e
  · simp at e
theorem addFree_has {env : Env} {x : Str} {c : Addr} {names : List (Str × NameKind)} (hm : (x, NameKind.free) ∈ names) (e : env.cells.lookup x = some c) : (addFree env names []).lookup x = some c := by
  rw [addFree_lookup, if_pos hm, e]
  rfl
theorem cellsFrom_app : ∀ (names : List (Str × NameKind)) (n : Nat) (acc : List (Str × Addr)), cellsFrom n names acc = cellsFrom n names [] ++ acc
  | [], _, _ => rfl
  | (name, kind) :: r, n, acc => by
    unfold cellsFrom
    split
    · rw [cellsFrom_app r (n + 1) ((name, n) :: acc), cellsFrom_app r (n + 1) [(name, n)]]
      simp
    · exact cellsFrom_app r n acc
theorem cellsFrom_name : ∀ (names : List (Str × NameKind)) (n : Nat) {x : Str} {c : Addr}, (x, c) ∈ cellsFrom n names [] → (x, NameKind.cell) ∈ names
  | [], _, _, _, h => by simp [cellsFrom] at h
  | (name, kind) :: r, n, x, c, h => by
    unfold cellsFrom at h
    split at h
    · rename_i hk
      rw [cellsFrom_app] at h
      rcases List.mem_append.mp h with h | h
      · exact List.mem_cons_of_mem _ (cellsFrom_name r _ h)
      · simp at h
        have hk' : kind = NameKind.cell := by simpa using hk
        rw [h.1, hk']
        exact List.mem_cons_self
    · exact List.mem_cons_of_mem _ (cellsFrom_name r _ h)
theorem lookup_app {α : Type} {x : Str} : ∀ (l r : List (Str × α)), (l ++ r).lookup x = (l.lookup x).or (r.lookup x)
  | [], r => by simp
  | (n, v) :: l, r => by
    rw [List.cons_append, List.lookup_cons, List.lookup_cons]
    cases x == n with
    | true => rfl
    | false => exact lookup_app l r
theorem wpAny_blockEnv {M : Model} {A : Around} {E : Value → Shared → Prop} {s : Shared} {scope : Scope} {env : Env} {cl : List (Str × Addr)} {Q : Env → Shared → Prop}
    (h : Q { scope, locals := s.heap.objs.size, globals := env.globals, cells := cellsFrom (s.heap.objs.size + 1) scope.names cl, qual := env.qual, func := none, code := env.code, frame := env.frame, builtins := env.builtins }
      { s with heap := pushCells (s.heap.push { cls := .type "dict", data := .dict #[] }) scope.names }) :
    wpAny M A (newFunctionEnv scope env.globals cl [] env.qual none .none (some env)) Q E s := by
  simp only [newFunctionEnv, Option.isSome_some, if_true]
  refine wpAny_bind (wpAny_alloc ?_)
  refine wpAny_bind (wpAny_layCells _ (fun name kind cells => by cases hkc : kind == NameKind.cell <;> simp [hkc]) _ _ _ _ ?_)
  rw [show ({ s with heap := s.heap.push { cls := .type "dict", data := .dict #[] } } : Shared).heap.objs.size = s.heap.objs.size + 1 from Heap.size_push ..]
  rw [List.forIn_nil]
  exact wpAny_bind (wpAny_pure (wpAny_pure h))
structure CScope (X : Cx) (sc : Scope) (own : List Str) (fr : List (Str × Nat)) : Prop where
  kind : sc.kind = .function
  loc : ∀ x ∈ sc.names, x.2 = .local → sc.names.lookup x.1 = some .local
  nd : (own ++ fr.map (·.1)).Nodup
  frk : ∀ p ∈ sc.names, p.2 = .free → X.env.scope.names.lookup p.1 = some .cell ∨ X.env.scope.names.lookup p.1 = some .free
  fre : ∀ p ∈ fr, (p.1, NameKind.free) ∈ sc.names ∧ X.N[p.2]? = some p.1
  one : (sc.names.map (·.1)).Nodup
noncomputable def compCx (X : Cx) (sc : Scope) (own : List Str) (fr : List (Str × Nat)) (s : Shared) (H : Hp) (pins : List (Addr × Obj)) (ex : List Addr) : Cx :=
  { X with
    N := own ++ fr.map (·.1), s₀ := s, H₀ := H,
    env := compEnvC sc (cellsFrom (s.heap.objs.size + 1) sc.names (addFree X.env sc.names [])) s.heap.objs.size X.env,
    outer := X.stack, stack := X.stack, ex := ex, fn := fun x => sc.names.lookup x == some .cell, pn := X.pn ++ pins, xe := fun _ _ => False }
noncomputable def compSt (n : Nat) (fr : List (Str × Nat)) (σ : St) : St := List.replicate n none ++ fr.map fun p => (σ[p.2]?).join
theorem relabel_look {env : Env} {x : Str} : ∀ (names : List (Str × NameKind)),
    (names.map fun (n, k) => if (k == NameKind.free && env.scope.kind == .function && env.kindOf n == some .cell) then (n, NameKind.cell) else (n, k)).lookup x =
      (names.lookup x).map fun k => if (k == NameKind.free && env.scope.kind == .function && env.kindOf x == some .cell) then NameKind.cell else k
  | [] => rfl
  | (n, k) :: r => by
    have ih := @relabel_look env x r
    have e : (if (k == NameKind.free && env.scope.kind == .function && env.kindOf n == some .cell) = true then (n, NameKind.cell) else (n, k)) = (n, if (k == NameKind.free && env.scope.kind == .function && env.kindOf n == some .cell) = true then NameKind.cell else k) := by split <;> rfl
    show List.lookup x ((if (k == NameKind.free && env.scope.kind == .function && env.kindOf n == some .cell) = true then (n, NameKind.cell) else (n, k)) :: _) = _
    rw [e, List.lookup_cons, List.lookup_cons]
    cases hx : x == n with
    | true =>
      have ex : x = n := beq_iff_eq.mp hx
      subst ex
      rfl
    | false => exact ih
theorem lookup_of_mem {α : Type} {x : Str} {v : α} : ∀ {l : List (Str × α)}, (l.map (·.1)).Nodup → (x, v) ∈ l → l.lookup x = some v
  | [], _, h => by simp at h
  | (n, w) :: r, nd, h => by
    rw [List.map_cons] at nd
    obtain ⟨n1, n2⟩ := List.nodup_cons.mp nd
    rcases List.mem_cons.mp h with e | h2
    · cases e
      simp [List.lookup_cons]
    · have : x ≠ n := fun e => n1 (List.mem_map.mpr ⟨(x, v), h2, e⟩)
      have hb : (x == n) = false := beq_eq_false_iff_ne.mpr this
      rw [List.lookup_cons, hb]
      exact lookup_of_mem n2 h2
section
variable {X : Cx} {sc : Scope} {own : List Str} {fr : List (Str × Nat)} {pins : List (Addr × Obj)} {σ : St} {H : Hp} {s : Shared} {fp : List Addr}
theorem CScope.cells (S : CScope X sc own fr) (I : Inv X pins σ H s) : ∀ p ∈ sc.names, p.2 = .free → ∃ c, X.env.cells.lookup p.1 = some c := fun p hp hk => I.ok.has p.1 (S.frk p hp hk)
theorem block_cell (S : CScope X sc own fr) (I : Inv X pins σ H s) {x : Str} {c : Addr} (e : (cellsFrom (s.heap.objs.size + 1) sc.names (addFree X.env sc.names [])).lookup x = some c) :
    ((x, NameKind.cell) ∈ sc.names ∧ (x, c) ∈ cellsFrom (s.heap.objs.size + 1) sc.names [] ∧ s.heap.objs.size + 1 ≤ c) ∨ (X.env.cells.lookup x = some c ∧ c < s.heap.objs.size) := by
  rw [cellsFrom_app, lookup_app] at e
  have ok := cellsFrom_ok sc.names (s.heap.push { cls := .type "dict", data := .dict #[] }) (s.heap.objs.size + 1) [] ⟨fun _ _ hm => (nomatch hm), List.Pairwise.nil⟩ (by rw [Heap.size_push]; exact Nat.le_refl _)
  rw [Heap.size_push] at ok
  cases q : (cellsFrom (s.heap.objs.size + 1) sc.names []).lookup x with
  | some c' =>
    rw [q] at e
    have e' : c' = c := Option.some.inj e
    subst e'
    have hm := PySem.mem_of_lookup q
    exact .inl ⟨cellsFrom_name _ _ hm, hm, (ok.empty x c' hm).2⟩
  | none =>
    rw [q] at e
    have e' : (addFree X.env sc.names []).lookup x = some c := e
    have e2 := addFree_some (S.cells I) e'
    obtain ⟨v, z⟩ := I.cell x c e2
    exact .inr ⟨e2, z.lt⟩
theorem block_inv (S : CScope X sc own fr) (I : Inv X pins σ H s) (hf : ∀ b ∈ fp, FpOk X pins H b) (hb : ∀ b ∈ fp, b < s.heap.objs.size) :
    Inv (compCx X sc own fr s H pins fp) [] (compSt own.length fr σ) H { s with heap := pushCells (s.heap.push { cls := .type "dict", data := .dict #[] }) sc.names } := by
  have ok := cellsFrom_ok sc.names (s.heap.push { cls := .type "dict", data := .dict #[] }) (s.heap.objs.size + 1) [] ⟨fun _ _ hm => (nomatch hm), List.Pairwise.nil⟩ (by rw [Heap.size_push]; exact Nat.le_refl _)
  rw [Heap.size_push] at ok
  have keep : ∀ b o, s.heap.get? b = some o → (pushCells (s.heap.push { cls := .type "dict", data := .dict #[] }) sc.names).get? b = some o := fun b o e => pushCells_keeps _ _ b o (Heap.get?_push_of_some _ e)
  have stk : ∀ b ∈ frs X.stack, b ∈ X.env.locals :: X.fs := I.stkSub
  have hfs : ∀ b ∈ fp, b ∉ frs X.stack := fun b hb z => by
    obtain ⟨_, f1, f2, _⟩ := hf b hb
    rcases List.mem_cons.mp (stk b z) with e | e
    · exact f1 e
    · exact f2 e
  have has : ∀ x, (sc.names.lookup x = some .cell ∨ sc.names.lookup x = some .free) → ∃ c, (cellsFrom (s.heap.objs.size + 1) sc.names (addFree X.env sc.names [])).lookup x = some c := fun x hx => by
    rw [cellsFrom_app, lookup_app]
    rcases hx with hx | hx
    · obtain ⟨c, hc⟩ := cell_has (n := s.heap.objs.size + 1) hx
      exact ⟨c, by rw [hc]; rfl⟩
    · have hm := PySem.mem_of_lookup hx
      obtain ⟨c, hc⟩ := S.cells I _ hm rfl
      cases q : (cellsFrom (s.heap.objs.size + 1) sc.names []).lookup x with
      | some c' => exact ⟨c', rfl⟩
      | none => exact ⟨c, addFree_has hm hc⟩
  have kindC : ∀ x, (compCx X sc own fr s H pins fp).env.kindOf x = (sc.names.lookup x).map fun k => if (k == NameKind.free && X.env.scope.kind == .function && X.env.kindOf x == some .cell) then NameKind.cell else k := fun x => relabel_look sc.names
  have isC : ∀ x, ((compCx X sc own fr s H pins fp).env.kindOf x = some .cell ∨ (compCx X sc own fr s H pins fp).env.kindOf x = some .free) → (sc.names.lookup x = some .cell ∨ sc.names.lookup x = some .free) := fun x hx => by
    rw [kindC] at hx
    cases q : sc.names.lookup x with
    | none => rw [q] at hx; simp at hx
    | some k =>
      rw [q] at hx
      simp only [Option.map_some, Option.some.injEq] at hx
      split at hx
      · rename_i hk
        have : k = NameKind.free := by
          have := (Bool.and_eq_true_iff.mp (Bool.and_eq_true_iff.mp hk).1).1
          simpa using this
        exact .inr (by rw [this])
      · rcases hx with e | e
        · exact .inl (by rw [e])
        · exact .inr (by rw [e])
  refine ⟨⟨I.ok.mod, S.kind, I.ok.glob, I.ok.blt, Nat.le_refl _, fun x y c h1 h2 => ?_, fun x hx => has x (isC x hx), fun x c hx h => ?_, I.ok.hd, I.ok.frames, .inl rfl, fun b hbb => ⟨?_, fun x c h => ?_⟩, I.bs, Nat.le_trans I.ok.bsz I.sz, fun b o e hbb => ?_, fun b hbb => hfs b hbb, I.stack, I.stkFree⟩,
    rfl, I.bare, Un.kept keep, ⟨fun _ => none, (Heap.Ns.new s.heap (.type "dict")).keeps (pushCells_keeps _ _), fun i x v h1 h2 h3 => ?_⟩, fun x c h => ?_, I.hok.fresh (Nat.le_refl _), fun x c h => ?_, fun p hp => ?_, I.hok.kept keep, ?_⟩
  · -- two names, one cell
    rcases block_cell S I h1 with ⟨k1, m1, l1⟩ | ⟨e1, l1⟩ <;> rcases block_cell S I h2 with ⟨k2, m2, l2⟩ | ⟨e2, l2⟩
    · exact name_of_addr ok.apart m1 m2
    · exact absurd (Nat.lt_of_lt_of_le l2 (Nat.le_of_succ_le l1)) (Nat.lt_irrefl _)
    · exact absurd (Nat.lt_of_lt_of_le l1 (Nat.le_of_succ_le l2)) (Nat.lt_irrefl _)
    · exact I.ok.inj x y c e1 e2
  · rcases block_cell S I h with ⟨k1, m1, l1⟩ | ⟨e1, l1⟩
    · exact Nat.le_of_succ_le l1
    · have hx0 : (sc.names.lookup x == some .cell) = true := hx
      have hx' : sc.names.lookup x = some .cell := by simpa using hx0
      have hx2 : (cellsFrom (s.heap.objs.size + 1) sc.names []).lookup x = some c ∨ False := by
        obtain ⟨c', hc'⟩ := cell_has (n := s.heap.objs.size + 1) hx'
        have h' : (cellsFrom (s.heap.objs.size + 1) sc.names (addFree X.env sc.names [])).lookup x = some c := h
        rw [cellsFrom_app, lookup_app, hc'] at h'
        exact .inl (by rw [hc']; exact h')
      rcases hx2 with q | q
      · exact Nat.le_of_succ_le (ok.empty x c (PySem.mem_of_lookup q)).2
      · exact q.elim
  · exact Nat.ne_of_lt (hb b hbb)
  · rcases block_cell S I h with ⟨k1, m1, l1⟩ | ⟨e1, l1⟩
    · intro z
      exact absurd (Nat.lt_of_lt_of_le (hb b hbb) (Nat.le_of_succ_le (z ▸ l1))) (Nat.lt_irrefl _)
    · exact (hf b hbb).2.2.2.2.1 x c e1
  · -- an object of the base is no iterator of ours
    obtain ⟨_, _, _, f3, _⟩ := hf b hbb
    rcases f3 with z | z
    · exact I.ok.noex b o e z
    · exact absurd (Nat.lt_of_lt_of_le (Heap.lt_size (I.ok.bs b o e).1) z) (Nat.lt_irrefl _)
  · -- an outer name seen from within
    have hi : ¬ i < own.length := fun hlt => by
      unfold compSt at h2
      rw [List.getElem?_append_left (by simpa using hlt), List.getElem?_replicate] at h2
      split at h2 <;> cases h2
    have h1' : (fr.map (·.1))[i - own.length]? = some x := by
      have := h1
      rw [show (compCx X sc own fr s H pins fp).N = own ++ fr.map (·.1) from rfl, List.getElem?_append_right (by omega)] at this
      exact this
    have h2' : (fr.map fun p => (σ[p.2]?).join)[i - own.length]? = some (some v) := by
      unfold compSt at h2
      rw [List.getElem?_append_right (by simp; omega)] at h2
      simpa using h2
    rw [List.getElem?_map] at h1' h2'
    cases q : fr[i - own.length]? with
    | none => rw [q] at h1'; cases h1'
    | some p =>
      rw [q] at h1' h2'
      obtain ⟨x', j⟩ := p
      have ex : x' = x := Option.some.inj h1'
      subst ex
      have ej : (σ[j]?).join = some v := Option.some.inj h2'
      obtain ⟨hfree, hN⟩ := S.fre _ (List.mem_of_getElem? q)
      have hj : σ[j]? = some (some v) := by
        cases r : σ[j]? with
        | none => rw [r] at ej; cases ej
        | some w => rw [r] at ej; simp at ej; rw [ej]
      have hk := S.frk _ hfree rfl
      obtain ⟨m, hm, hl⟩ := I.loc
      obtain ⟨u, ru, lk⟩ := hl j x' v hN hj (by rcases hk with z | z; · exact .inr (.inl z)
                                                · exact .inr (.inr z))
      refine ⟨u, ru, .inr ?_⟩
      rcases lk with ⟨z, _⟩ | ⟨z, c, hc, ic⟩
      · have z' : X.env.scope.names.lookup x' = some .local := z
        rcases hk with y | y <;> (have y' : X.env.scope.names.lookup x' = _ := y; rw [z'] at y'; cases y')
      · refine ⟨?_, c, ?_, ic.keeps keep⟩
        · have hlk : sc.names.lookup x' = some .free := lookup_of_mem S.one hfree
          rw [kindC, hlk]
          simp only [Option.map_some]
          split
          · exact .inl rfl
          · exact .inr rfl
        · show (cellsFrom (s.heap.objs.size + 1) sc.names (addFree X.env sc.names [])).lookup x' = some c
          rw [cellsFrom_app, lookup_app]
          have hno : (cellsFrom (s.heap.objs.size + 1) sc.names []).lookup x' = none := by
            cases r : (cellsFrom (s.heap.objs.size + 1) sc.names []).lookup x' with
            | none => rfl
            | some c' =>
              have hmm := cellsFrom_name _ _ (PySem.mem_of_lookup r)
              have := lookup_of_mem S.one hmm
              rw [lookup_of_mem S.one hfree] at this
              cases this
          rw [hno]
          exact addFree_has hfree hc
  · rcases block_cell S I h with ⟨k1, m1, l1⟩ | ⟨e1, l1⟩
    · exact ⟨_, (ok.empty x c m1).1⟩
    · obtain ⟨v, z⟩ := I.cell x c e1
      exact ⟨v, z.keeps keep⟩
  · rcases block_cell S I h with ⟨k1, m1, l1⟩ | ⟨e1, l1⟩
    · exact I.hok.fresh (Nat.le_of_succ_le l1)
    · exact I.freeC x c e1
  · have hp' : p ∈ X.pn ++ pins := by simpa [compCx] using hp
    obtain ⟨e, n, ne, nf, d⟩ := I.pin p hp'
    refine ⟨keep _ _ e, n, Nat.ne_of_lt (Heap.lt_size e), fun z => ?_, d⟩
    rcases List.mem_cons.mp (stk _ z) with q | q
    · exact ne q
    · exact nf q
  · show (compSt own.length fr σ).length = (own ++ fr.map (·.1)).length
    unfold compSt
    simp
end
end L2
namespace L2
open PySem PySem.Spec PyProof.Rows
noncomputable def PIfs (X : Cx) (ifs : List Expr) (t : TT) : Prop :=
  ∀ (pins : List (Addr × Obj)) (s : Shared) (σ : St) (H : Hp) (Q : Bool → Hp → Prop), Inv X pins σ H s → t σ H Q →
    wpAny (model X.prog X.w) X.A (forIn ifs true fun c r => if r = true then do let ok ← isTrue c X.env (eval c X.env); pure (ForInStep.yield ok) else pure (ForInStep.yield r)) (TP X pins σ Q) X.xe s
noncomputable def tTrue : TT := fun _ H Q => Q true H
theorem pifs_nil {X : Cx} : PIfs X [] tTrue := fun _ _ _ H _ I h => wpAny_tests_nil ⟨H, I, h⟩
section
variable {prog : Program} {w : World} {A : Around} {R : Result → Shared → Prop} {s : Shared}
noncomputable abbrev FF : Value → Shared → Prop := fun _ _ => False
theorem codeAny_compLoop_any {elt target iter : Expr} {ifs : List Expr} {scope : Scope} {pos : Pos} {it acc : Value} {env : Env} (I : Nat → Shared → Prop)
    (turn : ∀ n s, I n s → wpAny (model prog w) A (pyNext it) (fun r s₁ => match r with
      | none => R (.ok .next) s₁
      | some v => wpAny (model prog w) A (letOwnedTupleGo target it v) (fun _ s₁' => wpAny (model prog w) A (assign target env v) (fun _ s₂ =>
          wpAny (model prog w) A (forIn ifs true fun c r => if r = true then do let ok ← isTrue c env (eval c env); pure (ForInStep.yield ok) else pure (ForInStep.yield r)) (fun ok s₃ =>
            if ok = true then wpAny (model prog w) A (eval elt env) (fun x s₄ =>
              wpAny (model prog w) A (call (.builtin "list.append") [acc, x]) (fun _ s₅ => ∃ m, m < n ∧ I m s₅) FF s₄) FF s₃
            else ∃ m, m < n ∧ I m s₃) FF s₂) FF s₁') FF s₁) FF s)
    (n : Nat) (h : I n s) :
    codeAny (model prog w) A (.compLoop (.ListComp elt [⟨target, iter, ifs, 0⟩] scope pos) 0 it acc env) R s := by
  refine codeAny_loop rfl I (fun n s hI => ?_) n h
  show wpAny _ A ((compTurn (.ListComp elt [⟨target, iter, ifs, 0⟩] scope pos) 0 it acc env).onRaise (fun x => do noteFrame x env; theTreesLotGoes x)) _ _ s
  refine wpAny_noted ?_
  rw [compTurn_list]
  refine wpAny_bind (wpAny_standAt (wpAny_bind (wpAny_mono (turn n s hI) (fun r s₁ h₁ => ?_) fun _ _ f => f.elim)))
  cases r with
  | none => exact wpAny_pure h₁
  | some v =>
    refine wpAny_bind (wpAny_mono h₁ (fun _ s₁' h₁' => ?_) fun _ _ f => f.elim)
    refine wpAny_bind (wpAny_mono h₁' (fun _ s₂ h₂ => wpAny_bind (wpAny_mono h₂ (fun ok s₃ h₃ => ?_) fun _ _ f => f.elim)) fun _ _ f => f.elim)
    cases ok with
    | false => exact wpAny_pure ⟨rfl, h₃⟩
    | true =>
      exact wpAny_bind (wpAny_bind (wpAny_mono h₃ (fun x s₄ h₄ => wpAny_bind (wpAny_mono h₄ (fun _ s₅ h₅ => wpAny_pure (wpAny_pure ⟨rfl, h₅⟩)) fun _ _ f => f.elim)) fun _ _ f => f.elim))
end
section
variable {X : Cx} {sc : Scope} {own : List Str} {fr : List (Str × Nat)} {pins : List (Addr × Obj)} {σ : St} {tg elt iter : Expr} {ifs : List Expr} {g : TG} {ti : TT} {te : TE} {pos : Pos}
noncomputable def rdComp (n : Nat) (fr : List (Str × Nat)) (g : TG) (ti : TT) (te : TE) (σ : St) (J : It) (H1 : Hp) (Q : VK) : Prop :=
  ∀ l, H1 l = none → ∃ W : Nat → Nat → List V → St → Hp → Prop, (∃ m, W 0 m [] (compSt n fr σ) (upd H1 l (.lst []))) ∧
    ∀ i m ys σ1 H, W i m ys σ1 H → (J.stop i H ∧ Q (.ref l) H) ∨
      (J.go i H ∧ ∀ x H', J.yld i H x H' → g x σ1 H' fun σ2 H2 => ti σ2 H2 fun b H3 =>
        if b = true then te σ2 H3 fun y H4 => H4 l = some (.lst ys) ∧ ys.length < sizeLine ∧ ∃ m', m' < m ∧ W (i + 1) m' (ys ++ [y]) σ2 (upd H4 l (.lst (ys ++ [y])))
        else ∃ m', m' < m ∧ W (i + 1) m' ys σ2 H3)
theorem block_run (S : CScope X sc own fr) (hc : X.calm = true)
    (hg : ∀ s H fp, PG (compCx X sc own fr s H pins fp) tg g) (ht : ∀ s H fp, PIfs (compCx X sc own fr s H pins fp) ifs ti) (he : ∀ s H fp, PE (compCx X sc own fr s H pins fp) elt te)
    {it : Addr} {fp : List Addr} {tn : Nat → Heap → Prop} {J : It} {H2 : Hp} {s2 : Shared} (I2 : Inv X pins σ H2 s2) (T : Turn X.prog X.w X.K tg J fp it tn) (st2 : tn 0 s2.heap) (f2 : ∀ b ∈ fp, FpOk X pins H2 b) {Q : VK}
    (rd : rdComp own.length fr g ti te σ J H2 Q) {RR : Value → Addr → Result → Shared → Prop} {E : Value → Shared → Prop}
    (fin : ∀ (l C : Addr) (s' : Shared) (H' : Hp), (∃ m, s'.heap.Ns C m) → Inv X pins σ H' s' → FpOk X pins H' C → Q (.ref l) H' → RR (.ref l) C (.ok .next) s') :
    wpAny (model X.prog X.w) X.A (newList []) (fun acc s3 => wpAny (model X.prog X.w) X.A (newFunctionEnv sc X.env.globals (addFree X.env sc.names []) [] X.env.qual none .none (some X.env)) (fun cenv s4 =>
      codeAny (model X.prog X.w) X.A (.compStart (.ListComp elt [⟨tg, iter, ifs, 0⟩] sc pos) 0 (.ref it) acc { cenv with scope := relabel sc X.env }) (RR acc cenv.locals) s4) E s3) E s2 := by
  refine wpAny_newObj_type (wpAny_blockEnv ?_)
  have I3 : Inv X pins σ (upd H2 s2.heap.objs.size (.lst [])) { s2 with heap := s2.heap.push { cls := .type "list", data := .seq ([] : List Value).toArray }, toks := s2.toks } := I2.lnew (its := []) .nil (Nat.zero_le _)
  have hlt : ∀ b ∈ fp, b < s2.heap.objs.size := fun b hb => by
    obtain ⟨o, e, _⟩ := T.obj _ _ st2 b hb
    exact Heap.lt_size e
  have hlt3 : ∀ b ∈ fp, b < (s2.heap.push { cls := .type "list", data := .seq ([] : List Value).toArray } : Heap).objs.size := fun b hb => by
    rw [Heap.size_push]; exact Nat.lt_succ_of_lt (hlt b hb)
  have f3 : ∀ b ∈ fp, FpOk X pins (upd H2 s2.heap.objs.size (.lst [])) b := fun b hb => ⟨by rw [upd_ne (Nat.ne_of_lt (hlt b hb))]; exact (f2 b hb).1, (f2 b hb).2⟩
  have B := block_inv (fp := fp) S I3 f3 hlt3
  generalize hs3 : ({ s2 with heap := s2.heap.push { cls := .type "list", data := .seq ([] : List Value).toArray }, toks := s2.toks } : Shared) = s3 at I3 B
  have hC : s3.heap.objs.size = (s2.heap.push { cls := .type "list", data := .seq ([] : List Value).toArray } : Heap).objs.size := by rw [← hs3]
  have hl3 : ∀ b ∈ fp, b < s3.heap.objs.size := fun b hb => by rw [hC]; exact hlt3 b hb
  have k34 : ∀ b o, s2.heap.get? b = some o → (pushCells (s3.heap.push { cls := .type "dict", data := .dict #[] }) sc.names).get? b = some o := fun b o e => by
    refine pushCells_keeps _ _ b o (Heap.get?_push_of_some _ ?_)
    rw [← hs3]
    exact Heap.get?_push_of_some _ e
  have st4 : tn 0 (pushCells (s3.heap.push { cls := .type "dict", data := .dict #[] }) sc.names) := T.keep _ _ _ st2 fun b _ o e => k34 b o e
  obtain ⟨W, ⟨m0, w0⟩, turn⟩ := rd s2.heap.objs.size (I2.hok.fresh (Nat.le_refl _))
  generalize hl : s2.heap.objs.size = l at *
  have hl' : s2.heap.objs.size = l := hl
  have stat : ∀ {H' : Hp}, (∀ b ∈ fp, H' b = none) → ∀ b ∈ fp, FpOk (compCx X sc own fr s3 (upd H2 l (.lst [])) pins fp) [] H' b := fun hn b hb => by
    refine ⟨hn b hb, (B.ok.exf b hb).1, B.ok.exfs b hb, .inl hb, (B.ok.exf b hb).2, fun p hp => ?_⟩
    have hp' : p ∈ X.pn ++ pins := by simpa [compCx] using hp
    exact (f2 b hb).2.2.2.2.2 p hp'
  have loop : codeAny (model X.prog X.w) X.A (.compLoop (.ListComp elt [⟨tg, iter, ifs, 0⟩] sc pos) 0 (.ref it) (.ref l) (compCx X sc own fr s3 (upd H2 l (.lst [])) pins fp).env) (RR (.ref l) s3.heap.objs.size)
      { s3 with heap := pushCells (s3.heap.push { cls := .type "dict", data := .dict #[] }) sc.names } := by
    refine codeAny_compLoop_any (fun n s' => ∃ i ys σ' H', Inv (compCx X sc own fr s3 (upd H2 l (.lst [])) pins fp) [] σ' H' s' ∧ tn i s'.heap ∧ (∀ b ∈ fp, H' b = none) ∧ W i n ys σ' H') ?_ m0
      ⟨0, [], _, _, B, st4, fun b hb => (f3 b hb).1, w0⟩
    rintro n s5 ⟨i, ys, σ5, H5, I5, st5, fr5, w5⟩
    rcases turn i n ys σ5 H5 w5 with ⟨stop, q⟩ | ⟨go, step⟩
    · refine thn (T.done (compCx X sc own fr s3 (upd H2 l (.lst [])) pins fp) rfl rfl rfl hc i [] s5 σ5 H5 FF I5 (stat fr5) st5 stop) fun r s6 ⟨hr, I6⟩ => ?_
      subst hr
      have IX : Inv X pins σ H5 s6 := I3.call' (ch := fp) I6.os I6.base I6.hok I6.bare fun b hb => ⟨(f3 b hb).2.2.2.1, (f3 b hb).2.1, (f3 b hb).2.2.2.2.1, (f3 b hb).2.2.2.2.2⟩
      obtain ⟨m, hm, _⟩ := I6.loc
      exact fin l _ s6 H5 ⟨m, hm⟩ IX (I3.fpOk (Nat.le_refl _) I6.free) q
    · refine thn (T.item (compCx X sc own fr s3 (upd H2 l (.lst [])) pins fp) rfl rfl rfl hc i [] s5 σ5 H5 FF I5 (stat fr5) st5 go) fun r s6 ⟨u, hr, h6⟩ => ?_
      subst hr
      refine thn h6 fun _ s7 ⟨x, H7, I7, r7, y7, st7, fr7⟩ => ?_
      have I7' := I7.pinned (stat fr7) (T.obj _ _ st7)
      refine thn (hg _ _ _ _ s7 σ5 H7 x u _ I7' r7 (step x H7 y7)) fun _ s8 ⟨σ8, H8, I8, q8⟩ => ?_
      refine thn (ht _ _ _ _ s8 σ8 H8 _ I8 q8) fun b s9 ⟨H9, I9, q9⟩ => ?_
      have again : ∀ {σ' : St} {H' : Hp} {s' : Shared} {ys' : List V} {m' : Nat}, Inv (compCx X sc own fr s3 (upd H2 l (.lst [])) pins fp) ([] ++ pinsAt fp s7.heap) σ' H' s' → m' < n → W (i + 1) m' ys' σ' H' →
          ∃ m, m < n ∧ ∃ i ys σ' H', Inv (compCx X sc own fr s3 (upd H2 l (.lst [])) pins fp) [] σ' H' s' ∧ tn i s'.heap ∧ (∀ b ∈ fp, H' b = none) ∧ W i m ys σ' H' := fun {σ' H' s' ys' m'} J' hm w' => by
        refine ⟨m', hm, i + 1, ys', σ', H', J'.unpinned, T.keep _ _ _ st7 fun b hb o e => (J'.pin (b, o) (List.mem_append_right _ (List.mem_append_right _ (mem_pinsAt hb e)))).1, fun b hb => ?_, w'⟩
        obtain ⟨o, e, d⟩ := T.obj _ _ st7 b hb
        exact (J'.pin (b, o) (List.mem_append_right _ (List.mem_append_right _ (mem_pinsAt hb e)))).2.1
      cases b with
      | false =>
        rw [if_neg Bool.false_ne_true] at q9
        obtain ⟨m', hm, w'⟩ := q9
        exact again I9 hm w'
      | true =>
        rw [if_pos rfl] at q9
        refine thn (he _ _ _ _ s9 σ8 H9 _ I9 q9) fun v s10 ⟨y, H10, I10, r10, e10, z10, m', hm, w'⟩ => ?_
        refine thn (mt_append (X := compCx X sc own fr s3 (upd H2 l (.lst [])) pins fp) _ s10 σ8 H10 (.ref l) [y] (.ref l) [v] (fun a b => b = upd H10 l (.lst (ys ++ [y]))) I10 rfl (.cons r10 .nil) ⟨l, ys, y, rfl, rfl, e10, z10, rfl⟩) fun _ s11 ⟨_, H11, I11, _, e11⟩ => ?_
        subst e11
        exact again I11 hm w'
  have e5 : ({ s2 with heap := s2.heap.push { cls := .type "list", data := .seq ([] : List Value).toArray } } : Shared) = s3 := by rw [← hs3]
  subst hl
  exact codeAny_compStart_list loop (T.self _ 0 _ _ _ st4 loop)
noncomputable def tComp (wi : TI) (n : Nat) (fr : List (Str × Nat)) (g : TG) (ti : TT) (te : TE) : TE := fun σ H Q => wi σ H fun J H1 => rdComp n fr g ti te σ J H1 Q
theorem pe_comp {wi : TI} (hc : X.calm = true) (S : CScope X sc own fr) (hi : PI X tg iter wi) (hg : ∀ s H pins fp, PG (compCx X sc own fr s H pins fp) tg g) (ht : ∀ s H pins fp, PIfs (compCx X sc own fr s H pins fp) ifs ti)
    (he : ∀ s H pins fp, PE (compCx X sc own fr s H pins fp) elt te) (hs : ∀ x, foldedSetIterable iter X.env x = pure x := by intro _; rfl) :
    PE X (.ListComp elt [⟨tg, iter, ifs, 0⟩] sc pos) (tComp wi own.length fr g ti te) := by
  intro pins s σ H Q I h
  rw [eval_ListComp]
  refine wpAny_comprehension_free (use := none) rfl hs (closureFor_eq (S.cells I)) S.kind S.loc ?_
  refine thn (hi pins s σ H _ I h) fun v s1 h1 => thn h1 fun itv s2 h2 => ?_
  obtain ⟨it, fp, tn, J, H2, rfl, I2, T, st2, f2, rd⟩ := h2
  refine block_run S hc (fun s H fp => hg s H pins fp) (fun s H fp => ht s H pins fp) (fun s H fp => he s H pins fp) I2 T st2 f2 rd (RR := fun acc C => compPost (model X.prog X.w) X.A X.xe none (EP X pins σ Q) acc C) ?_
  rintro l C s' H' ⟨m, hn⟩ I' ⟨f0, f1, _, f3, f4, f5⟩ q
  exact ⟨m, hn, fun h' hs' => ⟨.ref l, H', I'.turned (t' := s'.toks) (fun b o hb e => (hs'.2 b hb).trans e) f0 f1 f3 f4 f5, rfl, q⟩⟩
end
end L2
set_option maxHeartbeats 4000000
namespace L2
open PySem PySem.Spec PyProof.Rows
section
variable {X : Cx}
theorem vals_bl : ∀ {bs : List Bool} {us : List Value}, Vals (bs.map V.bl) us → us = bs.map Value.bool
  | [], _, .nil => rfl
  | b :: bs, _, .cons r rs => by rw [vals_bl rs, show _ = Value.bool b from r]; rfl
theorem call_all_list (hc : X.calm = true) : CallR X (.builtin "all") (fun xs H Q => ∃ (a : Addr) (bs : List Bool), xs = [.ref a] ∧ SqL X.K H a (bs.map V.bl) ∧ Q (.bl (bs.all id)) H) := by
  intro pins s σ H xs us Q I r h
  obtain ⟨a, bs, rfl, hq, q⟩ := h
  obtain ⟨u, rfl, rx⟩ := vals1 r
  cases rx
  obtain ⟨its, rv, p, hz⟩ := I.list hq
  have e := vals_bl rv
  subst e
  refine call_all_walk (wpAny_pyIter_list p.isList ?_)
  have lt : a < s.heap.objs.size := by obtain ⟨o, e, _⟩ := p.isList; exact Heap.lt_size e
  refine ⟨_, _, _, _, _, _, fun i => (bs[i]?).getD true, rfl, Walks.list (prog := X.prog) (w := X.w) (A := X.A.in1) (I.ok.hd hc) s.heap.objs.size a (Nat.ne_of_lt lt) (bs.map Value.bool).toArray, ⟨⟨_, Heap.get?_push_size _ rfl, rfl, rfl⟩, p.isList.at fun o e => Heap.get?_push_of_some _ e⟩, ?_, fun h' tk kp => ?_⟩
  · intro i v s' Q' E' hv hQ
    have hv' : (bs[i]?).map Value.bool = some v := by simpa using hv
    cases e : bs[i]? with
    | none => rw [e] at hv'; cases hv'
    | some b =>
      rw [e] at hv'
      have hQ' : Q' ((bs[i]?).getD true) s' := hQ
      rw [e] at hQ'
      cases hv'
      exact wpAny_truthy_bool hQ'
  · have kp' : ∀ b o, s.heap.get? b = some o → h'.get? b = some o := fun b o e => kp b o (fun z => Nat.ne_of_lt (Heap.lt_size e) (List.mem_singleton.mp z)) (Heap.get?_push_of_some _ e)
    refine ⟨.bl (bs.all id), H, I.kept (t' := tk) kp', ?_, q⟩
    show Value.bool _ = Value.bool _
    congr 1
    simp only [List.size_toArray, List.length_map]
    rw [Bool.eq_iff_iff, List.all_eq_true, List.all_eq_true]
    constructor
    · intro hh b hb
      obtain ⟨i, hi, e⟩ := List.mem_iff_getElem.mp hb
      have := hh i (List.mem_range.mpr hi)
      rw [List.getElem?_eq_getElem hi] at this
      simpa [e] using this
    · intro hh i hi
      have hi' := List.mem_range.mp hi
      rw [List.getElem?_eq_getElem hi']
      simpa using hh _ (List.getElem_mem hi')
end
end L2
set_option maxHeartbeats 4000000
namespace DL
open PySem PySem.Spec L2
inductive D where
  | non | bl (b : Bool) | int (i : Int) | str (x : Str) | lst (xs : List D) | tup (xs : List D)
  | ins (C : Addr) (ns : List Str) (ds : List D)
  | scr (ns : List Int)
    | exc (C : Addr)
  | dK (ks : List Key) (ds : List D)
  | dT (ks : List (List Key)) (ds : List D)
  | fn (f : Addr)
noncomputable def excAt (a C : Addr) : Heap → Prop := fun h => ∃ o, h.get? a = some o ∧ o.cls = .ref C
mutual
inductive Rep (K : PySem.W.Frag) (H : Hp) : D → V → Prop
  | non : Rep K H .non .non
  | bl (b : Bool) : Rep K H (.bl b) (.bl b)
  | int (i : Int) : Rep K H (.int i) (.int i)
  | str (x : Str) : Rep K H (.str x) (.str x)
  | lst {a : Addr} {xs : List V} {ds : List D} (h : H a = some (.lst xs)) (r : Reps K H ds xs) : Rep K H (.lst ds) (.ref a)
  | tup {a : Addr} {xs : List V} {ds : List D} (h : H a = some (.tup xs)) (r : Reps K H ds xs) : Rep K H (.tup ds) (.ref a)
  | ins {a C dx : Addr} {fs : List (Str × V)} {ns : List Str} {ds : List D} (h : H a = some (.ins C dx fs)) (e : fs.map (·.1) = ns) (r : Reps K H ds (fs.map (·.2))) : Rep K H (.ins C ns ds) (.ref a)
  | scr {a : Addr} {ns : List Int} (h : SqL K H a (ns.map V.int)) : Rep K H (.scr ns) (.ref a)
  | exc {a C : Addr} (h : H a = some (.ext (excAt a C))) : Rep K H (.exc C) (.ref a)
  | dK {a : Addr} {kvs : List (Key × V)} {ks : List Key} {ds : List D} (h : H a = some (.dK kvs)) (e : kvs.map (·.1) = ks) (r : Reps K H ds (kvs.map (·.2))) : Rep K H (.dK ks ds) (.ref a)
  | dT {a : Addr} {kvs : List (List Key × V)} {ks : List (List Key)} {ds : List D} (h : H a = some (.dT kvs)) (e : kvs.map (·.1) = ks) (r : Reps K H ds (kvs.map (·.2))) : Rep K H (.dT ks ds) (.ref a)
  | fn (f : Addr) : Rep K H (.fn f) (.ref f)
inductive Reps (K : PySem.W.Frag) (H : Hp) : List D → List V → Prop
  | nil : Reps K H [] []
  | cons {d : D} {v : V} {ds : List D} {vs : List V} (r : Rep K H d v) (rs : Reps K H ds vs) : Reps K H (d :: ds) (v :: vs)
end
section
variable {K : PySem.W.Frag} {H H' Hs Hs' : Hp}
mutual
theorem Rep.mono (s : Same H H') : ∀ {d : D} {v : V}, Rep K H d v → Rep K H' d v
  | _, _, .non => .non
  | _, _, .bl b => .bl b
  | _, _, .int i => .int i
  | _, _, .str x => .str x
  | _, _, .lst h r => .lst (s _ _ h) (Reps.mono s r)
  | _, _, .tup h r => .tup (s _ _ h) (Reps.mono s r)
  | _, _, .ins h e r => .ins (s _ _ h) e (Reps.mono s r)
  | _, _, .scr h => .scr (s.seq h)
  | _, _, .exc h => .exc (s _ _ h)
  | _, _, .dK h e r => .dK (s _ _ h) e (Reps.mono s r)
  | _, _, .dT h e r => .dT (s _ _ h) e (Reps.mono s r)
  | _, _, .fn f => .fn f
theorem Reps.mono (s : Same H H') : ∀ {ds : List D} {vs : List V}, Reps K H ds vs → Reps K H' ds vs
  | _, _, .nil => .nil
  | _, _, .cons r rs => .cons (Rep.mono s r) (Reps.mono s rs)
end
theorem Reps.length : ∀ {ds : List D} {vs : List V}, Reps K H ds vs → ds.length = vs.length
  | _, _, .nil => rfl
  | _, _, .cons _ rs => by rw [List.length_cons, List.length_cons, Reps.length rs]
theorem Reps.append : ∀ {ds es : List D} {vs us : List V}, Reps K H ds vs → Reps K H es us → Reps K H (ds ++ es) (vs ++ us)
  | _, _, _, _, .nil, r => r
  | _, _, _, _, .cons r rs, q => .cons r (Reps.append rs q)
theorem Reps.get : ∀ {ds : List D} {vs : List V} {i : Nat} {d : D}, Reps K H ds vs → ds[i]? = some d → ∃ v, vs[i]? = some v ∧ Rep K H d v
  | _, _, _, _, .nil, e => by simp at e
  | _, _, 0, _, .cons r _, e => by simp at e; subst e; exact ⟨_, rfl, r⟩
  | _, _, i + 1, d, .cons _ rs, e => by
    obtain ⟨v, h1, h2⟩ := Reps.get (i := i) (d := d) rs (by simpa using e)
    exact ⟨v, by simpa using h1, h2⟩
theorem Reps.take : ∀ {ds : List D} {vs : List V} (n : Nat), Reps K H ds vs → Reps K H (ds.take n) (vs.take n)
  | _, _, 0, _ => .nil
  | _, _, _ + 1, .nil => .nil
  | _, _, n + 1, .cons r rs => .cons r (Reps.take n rs)
theorem Reps.drop : ∀ {ds : List D} {vs : List V} (n : Nat), Reps K H ds vs → Reps K H (ds.drop n) (vs.drop n)
  | _, _, 0, r => r
  | _, _, _ + 1, .nil => .nil
  | _, _, n + 1, .cons _ rs => Reps.drop n rs
theorem Reps.set {d : D} {v : V} (r : Rep K H d v) : ∀ {ds : List D} {vs : List V} (n : Nat), Reps K H ds vs → Reps K H (ds.set n d) (vs.set n v)
  | _, _, _, .nil => .nil
  | _, _, 0, .cons _ rs => .cons r rs
  | _, _, n + 1, .cons q rs => .cons q (Reps.set r n rs)
structure Grow (Hs H Hs' H' : Hp) : Prop where
  hs : Same Hs Hs'
  h : Same H H'
  sub : Same Hs' H'
  new : ∀ b, Hs' b ≠ none → Hs b = none → H b = none
theorem Grow.refl (s : Same Hs H) : Grow Hs H Hs H := ⟨Same.refl _, Same.refl _, s, fun b h e => absurd e h⟩
theorem Grow.trans {Hs1 H1 Hs2 H2 : Hp} (a : Grow Hs H Hs1 H1) (b : Grow Hs1 H1 Hs2 H2) : Grow Hs H Hs2 H2 := by
  refine ⟨a.hs.trans b.hs, a.h.trans b.h, b.sub, fun c h e => ?_⟩
  cases q : Hs1 c with
  | some o => exact a.new c (by rw [q]; simp) e
  | none => exact a.h.free (b.new c h q)
theorem sm_upd {a : Addr} {o : HO} (h : H a = none) : Same H (upd H a o) := fun b u e => by rw [upd_ne (ne_of_none e h)]; exact e
theorem sm_upd2 {a : Addr} {o : HO} (s : Same Hs H) : Same (upd Hs a o) (upd H a o) := fun b u e => by
  by_cases hb : b = a
  · subst hb; rw [upd_same] at e ⊢; exact e
  · rw [upd_ne hb] at e ⊢; exact s b u e
theorem sm_updR {a : Addr} {o : HO} (s : Same Hs H) (n : Hs a = none) : Same Hs (upd H a o) := fun b u e => by rw [upd_ne (ne_of_none e n)]; exact s b u e
theorem Grow.alloc {a : Addr} {o : HO} (s : Same Hs H) (h : H a = none) : Grow Hs H (upd Hs a o) (upd H a o) :=
  ⟨sm_upd (s.free h), sm_upd h, sm_upd2 s, fun b hb e => by
    by_cases q : b = a
    · rw [q]; exact h
    · rw [upd_ne q] at hb; exact absurd e hb⟩
end
inductive Sl where
  | val (d : D)
    | own (ds : List D)
noncomputable abbrev Rho := List (Option Sl)
noncomputable def SlRep (K : PySem.W.Frag) (Hs H : Hp) : Sl → V → Prop
  | .val d, v => Rep K Hs d v
  | .own ds, v => ∃ a xs, v = .ref a ∧ Hs a = none ∧ H a = some (.lst xs) ∧ Reps K Hs ds xs
structure StE (K : PySem.W.Frag) (Hs H : Hp) (ρ : Rho) (σ : St) : Prop where
  sub : Same Hs H
  len : ρ.length = σ.length
  slot : ∀ (i : Nat) (s : Sl), ρ[i]? = some (some s) → ∃ v, σ[i]? = some (some v) ∧ SlRep K Hs H s v
section
variable {K : PySem.W.Frag} {H H' Hs Hs' : Hp} {ρ : Rho} {σ : St}
theorem SlRep.grow (g : Grow Hs H Hs' H') : ∀ {s : Sl} {v : V}, SlRep K Hs H s v → SlRep K Hs' H' s v
  | .val _, _, r => Rep.mono g.hs r
  | .own _, _, ⟨a, xs, e, n, h, r⟩ => by
    refine ⟨a, xs, e, ?_, g.h _ _ h, Reps.mono g.hs r⟩
    cases q : Hs' a with
    | none => rfl
    | some o =>
      have z := g.new a (by rw [q]; simp) n
      rw [z] at h; cases h
theorem StE.grow (st : StE K Hs H ρ σ) (g : Grow Hs H Hs' H') : StE K Hs' H' ρ σ :=
  ⟨g.sub, st.len, fun i s e => let ⟨v, h1, h2⟩ := st.slot i s e; ⟨v, h1, h2.grow g⟩⟩
theorem StE.weak {ρ' : Rho} (st : StE K Hs H ρ σ) (hl : ρ'.length = ρ.length) (h : ∀ (i : Nat) (s : Sl), ρ'[i]? = some (some s) → ρ[i]? = some (some s)) : StE K Hs H ρ' σ :=
  ⟨st.sub, hl.trans st.len, fun i s e => st.slot i s (h i s e)⟩
theorem StE.set {i : Nat} {s : Sl} {v : V} (st : StE K Hs H ρ σ) (r : SlRep K Hs H s v) : StE K Hs H (ρ.set i (some s)) (σ.set i (some v)) := by
  refine ⟨st.sub, by rw [List.length_set, List.length_set]; exact st.len, fun j t e => ?_⟩
  by_cases hj : i = j
  · subst hj
    rw [List.getElem?_set] at e ⊢
    rw [if_pos rfl] at e ⊢
    have hl := st.len
    split at e
    · rename_i hi
      rw [if_pos (by omega)]
      cases e
      exact ⟨v, rfl, r⟩
    · cases e
  · rw [List.getElem?_set_ne hj] at e ⊢
    exact st.slot j t e
end
noncomputable abbrev Fe := Rho → Option D
noncomputable def tF (K : PySem.W.Frag) (f : Fe) : TE := fun σ H Q => ∃ ρ Hs d, StE K Hs H ρ σ ∧ f ρ = some d ∧ ∀ v H' Hs', Grow Hs H Hs' H' → Rep K Hs' d v → Q v H'
noncomputable def PF (X : Cx) (K : PySem.W.Frag) (e : Expr) (f : Fe) : Prop := X.K = K → PE X e (tF K f)
noncomputable def tFT (K : PySem.W.Frag) (f : Rho → Option Bool) : TT := fun σ H Q => ∃ ρ Hs b, StE K Hs H ρ σ ∧ f ρ = some b ∧ ∀ H' Hs', Grow Hs H Hs' H' → Q b H'
noncomputable def PFT (X : Cx) (K : PySem.W.Frag) (e : Expr) (f : Rho → Option Bool) : Prop := X.K = K → PT X e (tFT K f)
noncomputable def tFA (K : PySem.W.Frag) (f : Rho → Option (List D)) : TA := fun σ H Q => ∃ ρ Hs ds, StE K Hs H ρ σ ∧ f ρ = some ds ∧ ∀ vs H' Hs', Grow Hs H Hs' H' → Reps K Hs' ds vs → Q vs H'
noncomputable def PFA (X : Cx) (K : PySem.W.Frag) (es : List Expr) (f : Rho → Option (List D)) : Prop := X.K = K → PA X es (tFA K f)
theorem PE.imp {X : Cx} {e : Expr} {t t' : TE} (h : PE X e t) (i : ∀ σ H Q, t' σ H Q → t σ H Q) : PE X e t' := fun pins s σ H Q I q => h pins s σ H Q I (i σ H Q q)
theorem PT.imp {X : Cx} {e : Expr} {t t' : TT} (h : PT X e t) (i : ∀ σ H Q, t' σ H Q → t σ H Q) : PT X e t' := fun pins s σ H Q I q => h pins s σ H Q I (i σ H Q q)
theorem PW.imp {X : Cx} {e : Expr} {t t' : TT} (h : PW X e t) (i : ∀ σ H Q, t' σ H Q → t σ H Q) : PW X e t' := fun w pins s σ H Q I q => h w pins s σ H Q I (i σ H Q q)
theorem PA.imp {X : Cx} {e : List Expr} {t t' : TA} (h : PA X e t) (i : ∀ σ H Q, t' σ H Q → t σ H Q) : PA X e t' := fun p pins s σ H Q I q => h p pins s σ H Q I (i σ H Q q)
theorem PS.imp {X : Cx} {e : Stmt} {t t' : TS} (h : PS X e t) (i : ∀ D σ H, t' D σ H → t D σ H) : PS X e t' := fun pins s σ H D I q => h pins s σ H D I (i D σ H q)
theorem PSs.imp {X : Cx} {e : List Stmt} {t t' : TS} (h : PSs X e t) (i : ∀ D σ H, t' D σ H → t D σ H) : PSs X e t' := fun pins s σ H D I q => h pins s σ H D I (i D σ H q)
theorem PI.imp {X : Cx} {tg e : Expr} {t t' : TI} (h : PI X tg e t) (i : ∀ σ H Q, t' σ H Q → t σ H Q) : PI X tg e t' := fun pins s σ H Q I q => h pins s σ H Q I (i σ H Q q)
theorem PG.imp {X : Cx} {tg : Expr} {t t' : TG} (h : PG X tg t) (i : ∀ v σ H Q, t' v σ H Q → t v σ H Q) : PG X tg t' := fun pins s σ H v u Q I r q => h pins s σ H v u Q I r (i v σ H Q q)
noncomputable def fVar (i : Nat) : Fe := fun ρ => match ρ[i]? with
  | some (some (.val d)) => some d
  | _ => none
noncomputable def fC (d : D) : Fe := fun _ => some d
noncomputable def f1 (g : D → Option D) (f : Fe) : Fe := fun ρ => (f ρ).bind g
noncomputable def f2 (g : D → D → Option D) (f h : Fe) : Fe := fun ρ => (f ρ).bind fun x => (h ρ).bind fun y => g x y
noncomputable def fIf (t : Rho → Option Bool) (f h : Fe) : Fe := fun ρ => (t ρ).bind fun b => if b then f ρ else h ρ
noncomputable def aNil : Rho → Option (List D) := fun _ => some []
noncomputable def aCons (f : Fe) (r : Rho → Option (List D)) : Rho → Option (List D) := fun ρ => (f ρ).bind fun x => (r ρ).bind fun xs => some (x :: xs)
noncomputable def fA (g : List D → Option D) (a : Rho → Option (List D)) : Fe := fun ρ => (a ρ).bind g
noncomputable def bTest (f : Fe) : Rho → Option Bool := fun ρ => match f ρ with
  | some (.bl b) => some b
  | _ => none
noncomputable def bAnd (t u : Rho → Option Bool) : Rho → Option Bool := fun ρ => (t ρ).bind fun b => if b then u ρ else some false
noncomputable def bOr (t u : Rho → Option Bool) : Rho → Option Bool := fun ρ => (t ρ).bind fun b => if b then some true else u ρ
noncomputable def bNot (t : Rho → Option Bool) : Rho → Option Bool := fun ρ => (t ρ).map (!·)
noncomputable def truD : D → Option Bool
  | .non => some false
  | .bl b => some b
  | .int i => some (i != 0)
  | .lst xs => some (!xs.isEmpty)
  | .tup xs => some (!xs.isEmpty)
  | .scr ns => some (!ns.isEmpty)
  | _ => none
noncomputable def bTru (f : Fe) : Rho → Option Bool := fun ρ => (f ρ).bind truD
noncomputable def Op2 (K : PySem.W.Frag) (r : R2) (g : D → D → Option D) : Prop :=
  ∀ (Hs H : Hp) (x y z : D) (u v : V) (Q : VK), Same Hs H → Rep K Hs x u → Rep K Hs y v → g x y = some z → (∀ w H' Hs', Grow Hs H Hs' H' → Rep K Hs' z w → Q w H') → r u v H Q
noncomputable def OpN (K : PySem.W.Frag) (r : List V → Hp → VK → Prop) (g : List D → Option D) : Prop :=
  ∀ (Hs H : Hp) (xs : List D) (z : D) (us : List V) (Q : VK), Same Hs H → Reps K Hs xs us → g xs = some z → (∀ w H' Hs', Grow Hs H Hs' H' → Rep K Hs' z w → Q w H') → r us H Q
section
variable {X : Cx} {K : PySem.W.Frag} {a b c e : Expr} {es : List Expr} {f h l : Fe} {g : D → D → Option D} {g1 : D → Option D} {pos : Pos} {t u : Rho → Option Bool}
theorem two_rd (r : V → V → Hp → Prop) {σ : St} {H : Hp} {ρ : Rho} {Hs : Hp} {x y : D} (st : StE K Hs H ρ σ) (e1 : f ρ = some x) (e2 : h ρ = some y)
    (k : ∀ (u v : V) (H' Hs' : Hp), Grow Hs H Hs' H' → Rep K Hs' x u → Rep K Hs' y v → r u v H') : tF K f σ H fun u H1 => tF K h σ H1 fun v H2 => r u v H2 :=
  ⟨ρ, Hs, x, st, e1, fun u H1 Hs1 g1 r1 => ⟨ρ, Hs1, y, st.grow g1, e2, fun v H2 Hs2 g2 r2 => k u v H2 Hs2 (g1.trans g2) (r1.mono g2.hs) r2⟩⟩
theorem bind2 {α β γ : Type} {o : Option α} {p : Option β} {k : α → β → Option γ} {z : γ} (h : (o.bind fun x => p.bind fun y => k x y) = some z) : ∃ x y, o = some x ∧ p = some y ∧ k x y = some z := by
  cases o with
  | none => cases h
  | some x =>
    cases p with
    | none => cases h
    | some y => exact ⟨x, y, rfl, rfl, h⟩
theorem bind1 {α γ : Type} {o : Option α} {k : α → Option γ} {z : γ} (h : o.bind k = some z) : ∃ x, o = some x ∧ k x = some z := by
  cases o with
  | none => cases h
  | some x => exact ⟨x, rfl, h⟩
theorem pf_var (i : Nat) {x : Str} (hN : X.N[i]? = some x := by rfl) (hv : Vis X.env.scope x := by first | exact Or.inl rfl | exact Or.inr (Or.inl rfl) | exact Or.inr (Or.inr rfl)) (hd : (x == ("__debug__" : Str)) = false := by decide)
    (hcd : (x == ("__classdict__" : Str)) = false := by decide) : PF X K (.Name x pos) (fVar i) := fun _ => PE.imp (pe_var hN hv hd hcd) fun σ H Q ⟨ρ, Hs, d, st, ef, k⟩ => by
  unfold fVar at ef
  split at ef
  · rename_i d' hi
    cases ef
    obtain ⟨v, h1, h2⟩ := st.slot i _ hi
    exact ⟨v, h1, k v H Hs (Grow.refl st.sub) h2⟩
  · cases ef
theorem pf_c {d : D} {v : V} (hr : ∀ H, Rep K H d v) (hp : PE X e (tC v)) : PF X K e (fC d) := fun _ => PE.imp hp fun σ H Q ⟨ρ, Hs, d', st, ef, k⟩ => by
  cases ef
  exact k v H Hs (Grow.refl st.sub) (hr _)
theorem pf_int {i j} : PF X K (.Constant (.int i) j pos) (fC (.int i)) := pf_c (fun _ => .int i) pe_int
theorem pf_non {j} : PF X K (.Constant .none j pos) (fC .non) := pf_c (fun _ => .non) pe_non
theorem pf_str {x j} : PF X K (.Constant (.str x) j pos) (fC (.str x)) := pf_c (fun _ => .str x) pe_str
theorem pf_glob {x : Str} {i : Int} {t : Tok} (hg : Gl X x) (hm : X.mg x = some (.int i t)) (hd : (x == ("__debug__" : Str)) = false := by decide) : PF X K (.Name x pos) (fC (.int i)) := pf_c (fun _ => .int i) (pe_glob hg hm ⟨t, rfl⟩ hd)
theorem pf_op {op : Operator} {r : R2} (ho : OpR X (binaryOp op) r) (hr : Op2 K r g) (ha : PF X K a f) (hb : PF X K b h) : PF X K (.BinOp a op b pos) (f2 g f h) := fun hK => PE.imp (pe_op ho (ha hK) (hb hK)) fun σ H Q ⟨ρ, Hs, d, st, ef, k⟩ => by
  obtain ⟨x, y, e1, e2, e3⟩ := bind2 ef
  exact two_rd (fun u v H' => r u v H' Q) st e1 e2 fun u v H' Hs' g r1 r2 => hr Hs' H' x y d u v Q g.sub r1 r2 e3 fun w H2 Hs2 g2 => k w H2 Hs2 (g.trans g2)
theorem pf_cmp {op : CmpOp} {r : R2} (ho : OpR X (compareOp op) r) (hr : Op2 K r g) (ha : PF X K a f) (hb : PF X K b h) (hm : behindInMarks op b = false := by first | exact nomark _ | rfl) : PF X K (.Compare a [op] [b] pos) (f2 g f h) := fun hK =>
  PE.imp (pe_cmpR ho (ha hK) (hb hK) hm) fun σ H Q ⟨ρ, Hs, d, st, ef, k⟩ => by
  obtain ⟨x, y, e1, e2, e3⟩ := bind2 ef
  exact two_rd (fun u v H' => r u v H' Q) st e1 e2 fun u v H' Hs' g r1 r2 => hr Hs' H' x y d u v Q g.sub r1 r2 e3 fun w H2 Hs2 g2 => k w H2 Hs2 (g.trans g2)
theorem pt_cmpF {op : CmpOp} {r : R2} (ho : OpR X (compareOp op) r) (hr : Op2 K r g) (ha : PF X K a f) (hb : PF X K b h) (hm : behindInMarks op b = false := by first | exact nomark _ | rfl) : PFT X K (.Compare a [op] [b] pos) (bTest (f2 g f h)) := fun hK =>
  PT.imp (pt_cmpR ho (ha hK) (hb hK) hm) fun σ H Q ⟨ρ, Hs, d, st, ef, k⟩ => by
  unfold bTest at ef
  split at ef
  · rename_i d' q
    cases ef
    obtain ⟨x, y, e1, e2, e3⟩ := bind2 q
    refine two_rd (fun u v H' => r u v H' _) st e1 e2 fun u v H' Hs' g r1 r2 => hr Hs' H' x y _ u v _ g.sub r1 r2 e3 fun w H2 Hs2 g2 rw => ?_
    cases rw
    exact ⟨_, rfl, k H2 Hs2 (g.trans g2)⟩
  · cases ef
noncomputable def f3c (g g' : D → D → Option D) (f h l : Fe) : Fe := fun ρ => (f ρ).bind fun x => (h ρ).bind fun y => match g x y with
  | some (.bl true) => (l ρ).bind fun z => g' y z
  | some (.bl false) => some (.bl false)
  | _ => none
theorem chain_rd {r r' : R2} {g g' : D → D → Option D} (hr : Op2 K r g) (hr' : Op2 K r' g') {σ : St} {H : Hp} {Q : VK} (hq : tF K (f3c g g' f h l) σ H Q) : tChain r r' (tF K f) (tF K h) (tF K l) σ H Q := by
  obtain ⟨ρ, Hs, d, st, ef, k⟩ := hq
  unfold f3c at ef
  obtain ⟨x, y, e1, e2, e3⟩ := bind2 ef
  refine two_rd (fun u v H' => r u v H' _) st e1 e2 fun u v H' Hs' gr r1 r2 => ?_
  split at e3
  · rename_i q
    obtain ⟨z, e4, e5⟩ := bind1 e3
    refine hr Hs' H' x y _ u v _ gr.sub r1 r2 q fun w H2 Hs2 g2 rw => ?_
    cases rw
    refine ⟨true, rfl, ?_⟩
    rw [if_pos rfl]
    refine ⟨ρ, Hs2, z, (st.grow gr).grow g2, e4, fun w3 H3 Hs3 g3 r3 => ?_⟩
    exact hr' Hs3 H3 y z d v w3 Q g3.sub ((r2.mono g2.hs).mono g3.hs) r3 e5 fun w4 H4 Hs4 g4 => k w4 H4 Hs4 (((gr.trans g2).trans g3).trans g4)
  · rename_i q
    cases e3
    refine hr Hs' H' x y _ u v _ gr.sub r1 r2 q fun w H2 Hs2 g2 rw => ?_
    cases rw
    refine ⟨false, rfl, ?_⟩
    rw [if_neg Bool.false_ne_true]
    exact k _ H2 Hs2 (gr.trans g2) (.bl false)
  · cases e3
end
end DL
set_option maxHeartbeats 4000000
namespace DL
open PySem PySem.Spec L2
section
variable {X : Cx} {K : PySem.W.Frag} {a b c e : Expr} {es rest : List Expr} {f h l : Fe} {g g' : D → D → Option D} {g1 : D → Option D} {pos : Pos} {t u : Rho → Option Bool} {as : Rho → Option (List D)}
theorem pf_chain {op op' : CmpOp} {r r' : R2} (ho : OpR X (compareOp op) r) (hr : Op2 K r g) (ho' : OpR X (compareOp op') r') (hr' : Op2 K r' g') (ha : PF X K a f) (hb : PF X K b h) (hc : PF X K c l)
    (hm : lastMarks [op, op'] [b, c] = false := by with_unfolding_all rfl) : PF X K (.Compare a [op, op'] [b, c] pos) (f3c g g' f h l) := fun hK =>
  PE.imp (pe_chain ho ho' (ha hK) (hb hK) (hc hK) hm) fun σ H Q hq => chain_rd hr hr' hq
noncomputable def PFW (X : Cx) (K : PySem.W.Frag) (e : Expr) (f : Rho → Option Bool) : Prop := X.K = K → PW X e (tFT K f)
theorem PFW.pt (h : PFW X K e t) : PFT X K e t := fun hK => (h hK).pt
theorem pw_and1F (ha : PFT X K a t) : PFW X K (.BoolOp .And [a] pos) t := fun hK => pw_and1 (ha hK)
theorem pw_or1F (ha : PFT X K a t) : PFW X K (.BoolOp .Or [a] pos) t := fun hK => pw_or1 (ha hK)
theorem pw_andF (ha : PFT X K a t) (hb : PFW X K (.BoolOp .And (b :: rest) pos) u) : PFW X K (.BoolOp .And (a :: b :: rest) pos) (bAnd t u) := fun hK => PW.imp (pw_and (ha hK) (hb hK)) fun σ H Q ⟨ρ, Hs, d, st, ef, k⟩ => by
  obtain ⟨x, e1, e2⟩ := bind1 ef
  refine ⟨ρ, Hs, x, st, e1, fun H' Hs' g => ?_⟩
  cases x with
  | true => rw [if_pos rfl] at e2 ⊢; exact ⟨ρ, Hs', d, st.grow g, e2, fun H2 Hs2 g2 => k H2 Hs2 (g.trans g2)⟩
  | false => rw [if_neg Bool.false_ne_true] at e2 ⊢; cases e2; exact k H' Hs' g
theorem pw_orF (ha : PFT X K a t) (hb : PFW X K (.BoolOp .Or (b :: rest) pos) u) : PFW X K (.BoolOp .Or (a :: b :: rest) pos) (bOr t u) := fun hK => PW.imp (pw_or (ha hK) (hb hK)) fun σ H Q ⟨ρ, Hs, d, st, ef, k⟩ => by
  obtain ⟨x, e1, e2⟩ := bind1 ef
  refine ⟨ρ, Hs, x, st, e1, fun H' Hs' g => ?_⟩
  cases x with
  | false => rw [if_neg Bool.false_ne_true] at e2 ⊢; exact ⟨ρ, Hs', d, st.grow g, e2, fun H2 Hs2 g2 => k H2 Hs2 (g.trans g2)⟩
  | true => rw [if_pos rfl] at e2 ⊢; cases e2; exact k H' Hs' g
theorem pt_notF (ha : PFT X K a t) : PFT X K (.UnaryOp .Not a pos) (bNot t) := fun hK => PT.imp (pt_not (ha hK)) fun σ H Q ⟨ρ, Hs, d, st, ef, k⟩ => by
  unfold bNot at ef
  cases q : t ρ with
  | none => rw [q] at ef; cases ef
  | some x =>
    rw [q] at ef
    have e' : (!x) = d := Option.some.inj ef
    exact ⟨ρ, Hs, x, st, q, fun H' Hs' g => by
      show Q (!x) H'
      rw [e']; exact k H' Hs' g⟩
theorem tru_rd {d : D} {v : V} {b : Bool} {Hs H : Hp} (s : Same Hs H) (r : Rep K Hs d v) (e : truD d = some b) : TruV K v H b := by
  cases r with
  | non => cases e; rfl
  | bl x => cases e; rfl
  | int i => cases e; rfl
  | str x => cases e
  | lst h r =>
    cases e
    refine .inl ⟨_, SqL.of (s _ _ h), ?_⟩
    have := r.length
    cases r <;> rfl
  | tup h r =>
    cases e
    refine .inr (.inl ⟨_, SqT.of (s _ _ h), ?_⟩)
    cases r <;> rfl
  | ins h e' r => cases e
  | @scr a ns h =>
    cases e
    refine .inl ⟨_, s.seq h, ?_⟩
    cases ns <;> rfl
  | exc h => cases e
  | dK h e' r => cases e
  | dT h e' r => cases e
  | fn f => cases e
theorem pt_truF (ha : PF X K a f) (he : ∀ whole, isTrue a X.env whole = (do let v ← whole; standAt a.pos; holding [v] (truthy v)) := by intro _; rfl) : PFT X K a (bTru f) := fun hK => PT.imp (pt_truth (ha hK) he) fun σ H Q ⟨ρ, Hs, d, st, ef, k⟩ => by
  obtain ⟨x, e1, e2⟩ := bind1 ef
  exact ⟨ρ, Hs, x, st, e1, fun v H' Hs' g r => ⟨d, by rw [hK]; exact tru_rd g.sub r e2, k H' Hs' g⟩⟩
theorem pf_if (hc : PFT X K c t) (ha : PF X K a f) (hb : PF X K b h) : PF X K (.IfExp c a b pos) (fIf t f h) := fun hK => PE.imp (pe_ifExp (hc hK) (ha hK) (hb hK)) fun σ H Q ⟨ρ, Hs, d, st, ef, k⟩ => by
  obtain ⟨x, e1, e2⟩ := bind1 ef
  refine ⟨ρ, Hs, x, st, e1, fun H' Hs' g => ?_⟩
  cases x with
  | true => rw [if_pos rfl] at e2 ⊢; exact ⟨ρ, Hs', d, st.grow g, e2, fun v H2 Hs2 g2 => k v H2 Hs2 (g.trans g2)⟩
  | false => rw [if_neg Bool.false_ne_true] at e2 ⊢; exact ⟨ρ, Hs', d, st.grow g, e2, fun v H2 Hs2 g2 => k v H2 Hs2 (g.trans g2)⟩
noncomputable def fAnd (f h : Fe) : Fe := fun ρ => match f ρ with
  | some (.bl true) => h ρ
  | some (.bl false) => some (.bl false)
  | _ => none
noncomputable def fNot (f : Fe) : Fe := fun ρ => match f ρ with
  | some (.bl b) => some (.bl (!b))
  | _ => none
theorem pf_one {op} (ha : PF X K a f) : PF X K (.BoolOp op [a] pos) f := fun hK => pe_one (ha hK)
theorem pf_and (ha : PF X K a f) (hb : PF X K (.BoolOp .And (b :: rest) pos) h) : PF X K (.BoolOp .And (a :: b :: rest) pos) (fAnd f h) := fun hK => PE.imp (pe_and (ha hK) (hb hK)) fun σ H Q ⟨ρ, Hs, d, st, ef, k⟩ => by
  unfold fAnd at ef
  split at ef
  · rename_i q
    refine ⟨ρ, Hs, _, st, q, fun v H' Hs' g r => ?_⟩
    cases r
    refine ⟨true, rfl, ?_⟩
    rw [if_pos rfl]
    exact ⟨ρ, Hs', d, st.grow g, ef, fun v H2 Hs2 g2 => k v H2 Hs2 (g.trans g2)⟩
  · rename_i q
    cases ef
    refine ⟨ρ, Hs, _, st, q, fun v H' Hs' g r => ?_⟩
    cases r
    refine ⟨false, rfl, ?_⟩
    rw [if_neg Bool.false_ne_true]
    exact k _ H' Hs' g (.bl false)
  · cases ef
theorem pf_not (ha : PF X K a f) : PF X K (.UnaryOp .Not a pos) (fNot f) := fun hK => PE.imp (pe_not (ha hK)) fun σ H Q ⟨ρ, Hs, d, st, ef, k⟩ => by
  unfold fNot at ef
  split at ef
  · rename_i x q
    cases ef
    refine ⟨ρ, Hs, _, st, q, fun v H' Hs' g r => ?_⟩
    cases r
    exact ⟨x, rfl, k _ H' Hs' g (.bl _)⟩
  · cases ef
theorem pfa_nil : PFA X K [] aNil := fun _ => PA.imp pa_nil fun σ H Q ⟨ρ, Hs, d, st, ef, k⟩ => by
  cases ef
  exact k [] H Hs (Grow.refl st.sub) .nil
theorem pfa_cons (ha : PF X K e f) (hr : PFA X K es as) (hs : starEach (e :: es) X.env = (false, eval e X.env) :: starEach es X.env := by rfl) : PFA X K (e :: es) (aCons f as) := fun hK => PA.imp (pa_cons (ha hK) (hr hK) hs) fun σ H Q ⟨ρ, Hs, d, st, ef, k⟩ => by
  obtain ⟨x, xs, e1, e2, e3⟩ := bind2 ef
  cases e3
  exact ⟨ρ, Hs, x, st, e1, fun v H1 Hs1 g1 r1 => ⟨ρ, Hs1, xs, st.grow g1, e2, fun vs H2 Hs2 g2 r2 => k _ H2 Hs2 (g1.trans g2) (.cons (r1.mono g2.hs) r2)⟩⟩
noncomputable def gLst : List D → Option D := fun ds => if ds.length ≤ sizeLine then some (.lst ds) else none
theorem pf_lst (ha : PFA X K es as) : PF X K (.List es pos) (fA gLst as) := fun hK => PE.imp (pe_lst (ha hK)) fun σ H Q ⟨ρ, Hs, d, st, ef, k⟩ => by
  obtain ⟨ds, e1, e2⟩ := bind1 ef
  unfold gLst at e2
  split at e2
  · rename_i hz
    cases e2
    refine ⟨ρ, Hs, ds, st, e1, fun vs H' Hs' g r => ⟨by rw [← r.length]; exact hz, fun p hp => ?_⟩⟩
    have ga := Grow.alloc (o := .lst vs) g.sub hp
    exact k _ _ _ (g.trans ga) (.lst upd_same (r.mono ga.hs))
  · cases e2
theorem cb_rd {r : List V → Hp → VK → Prop} {gN : List D → Option D} (hr : OpN K r gN) {σ : St} {H : Hp} {Q : VK} (q : tF K (fA gN as) σ H Q) : tCB r (tFA K as) σ H Q := by
  obtain ⟨ρ, Hs, d, st, ef, k⟩ := q
  obtain ⟨ds, e1, e2⟩ := bind1 ef
  exact ⟨ρ, Hs, ds, st, e1, fun vs H' Hs' g rv => hr Hs' H' ds d vs Q g.sub rv e2 fun w H2 Hs2 g2 => k w H2 Hs2 (g.trans g2)⟩
theorem pf_callB {id : String} {x : Str} {p : Pos} {r : List V → Hp → VK → Prop} {gN : List D → Option D} (hc : CallR X (.builtin id) r) (hr : OpN K r gN) (hg : Gl X x) (hm : X.mg x = none) (hv : bootBuiltins x = some (.builtin id)) (ha : PFA X K (e :: es) as)
    (hn : x ≠ "__name__" := by decide) (hdb : (x == ("__debug__" : Str)) = false := by decide) (he : starEach (e :: es) X.env = (false, eval e X.env) :: starEach es X.env := by rfl) (hpl : (backTo pos (starEach es X.env)).any (·.1) = false := by rfl) :
    PF X K (.Call (.Name x p) (e :: es) [] pos) (fA gN as) := fun hK => PE.imp (pe_callB hc hg hm hv (ha hK) hn hdb he hpl) fun σ H Q q => cb_rd hr q
noncomputable def spF (K : PySem.W.Frag) (F : List D → Option D) : Sp := fun vs H Q _ => ∃ Hs ds d, Same Hs H ∧ Reps K Hs ds vs ∧ F ds = some d ∧ ∀ v H' Hs', Grow Hs H Hs' H' → Rep K Hs' d v → Q v H'
structure Df (P : Program) (w : World) (K : PySem.W.Frag) (mg : Str → Option Value) (base : Heap) (k : Nat) (x : Str) (ps : List Str) (F : List D → Option D) : Prop where
  ex : ∃ (f : Addr) (fd : FuncData), mg x = some (.ref f) ∧ PySem.W.keepIn K (.ref f) = true ∧ Binds K fd ps [] ∧ FnOk P w K mg base CX0 k f fd ps (spF K F)
theorem Df.mono {P : Program} {w : World} {mg : Str → Option Value} {base : Heap} {j k : Nat} {x : Str} {ps : List Str} {F : List D → Option D} (d : Df P w K mg base j x ps F) (h : j ≤ k) : Df P w K mg base k x ps F :=
  let ⟨f, fd, h1, h2, h3, h4⟩ := d.ex; ⟨f, fd, h1, h2, h3, h4.mono h⟩
theorem pf_call {k : Nat} {x : Str} {ps : List Str} {F : List D → Option D} {p : Pos} (hd : Df X.prog X.w K X.mg X.base k x ps F) (hr : Room k X.A) (hg : Gl X x) (ha : PFA X K (e :: es) as)
    (hdb : (x == ("__debug__" : Str)) = false := by decide) (he : starEach (e :: es) X.env = (false, eval e X.env) :: starEach es X.env := by rfl) (hpl : (backTo pos (starEach es X.env)).any (·.1) = false := by rfl) :
    PF X K (.Call (.Name x p) (e :: es) [] pos) (fA F as) := fun hK => by
  subst hK
  obtain ⟨fa, fd, h1, h2, h3, h4⟩ := hd.ex
  refine PE.imp (pe_call h4 hr hg h1 h2 h3 .nil pass0 (ha rfl) hdb he hpl) fun σ H Q ⟨ρ, Hs, d, st, ef, k⟩ => ?_
  obtain ⟨ds, e1, e2⟩ := bind1 ef
  refine ⟨ρ, Hs, ds, st, e1, fun vs H' Hs' g rv => ?_⟩
  show spF X.K F (vs ++ []) H' Q E0
  rw [List.append_nil]
  exact ⟨Hs', ds, d, g.sub, rv, e2, fun w H2 Hs2 g2 => k w H2 Hs2 (g.trans g2)⟩
theorem atI_rep {Hs : Hp} {ds : List D} {vs : List V} {i : Int} {d : D} (r : Reps K Hs ds vs) (e : atI ds i = some d) : ∃ v, atI vs i = some v ∧ Rep K Hs d v := by
  unfold atI at e ⊢
  rw [← r.length]
  cases q : ixN ds.length i with
  | none => rw [q] at e; cases e
  | some j =>
    rw [q] at e
    obtain ⟨v, h1, h2⟩ := r.get (show ds[j]? = some d from e)
    exact ⟨v, h1, h2⟩
noncomputable def gIx : D → D → Option D
  | .lst xs, .int i => atI xs i
  | .tup xs, .int i => atI xs i
  | .scr ns, .int i => (atI ns i).map D.int
  | _, _ => none
theorem atI_map {α β : Type} (k : α → β) (xs : List α) (i : Int) : atI (xs.map k) i = (atI xs i).map k := by
  unfold atI
  rw [List.length_map]
  cases ixN xs.length i with
  | none => rfl
  | some j => simp
theorem op_ix : Op2 K (rIx K) gIx := by
  intro Hs H x y z u v Q s rx ry e q
  cases rx with
  | lst h r =>
    cases ry with
    | int i =>
      obtain ⟨w, h1, h2⟩ := atI_rep r (show atI _ i = some z from e)
      exact .inl ⟨_, _, i, w, rfl, rfl, SqL.of (s _ _ h), h1, q w H Hs (Grow.refl s) h2⟩
    | _ => cases e
  | tup h r =>
    cases ry with
    | int i =>
      obtain ⟨w, h1, h2⟩ := atI_rep r (show atI _ i = some z from e)
      exact .inr (.inl ⟨_, _, i, w, rfl, rfl, SqT.of (s _ _ h), h1, q w H Hs (Grow.refl s) h2⟩)
    | _ => cases e
  | @scr a ns h =>
    cases ry with
    | int i =>
      have e' : (atI ns i).map D.int = some z := e
      cases q1 : atI ns i with
      | none => rw [q1] at e'; cases e'
      | some n =>
        rw [q1] at e'
        cases e'
        refine .inl ⟨a, ns.map V.int, i, .int n, rfl, rfl, s.seq h, ?_, q _ H Hs (Grow.refl s) (.int n)⟩
        rw [atI_map, q1]
        rfl
    | _ => cases e
  | _ => cases e
theorem pf_ix (ha : PF X K a f) (hb : PF X K b h) (hs : PlainIx b := by intro _ _; rfl) : PF X K (.Subscript a b pos) (f2 gIx f h) := fun hK => by
  subst hK
  refine PE.imp (pe_ix ix_seq (ha rfl) (hb rfl) hs) fun σ H Q ⟨ρ, Hs, d, st, ef, k⟩ => ?_
  obtain ⟨x, y, e1, e2, e3⟩ := bind2 ef
  exact two_rd (fun u v H' => rIx X.K u v H' Q) st e1 e2 fun u v H' Hs' g r1 r2 => op_ix Hs' H' x y d u v Q g.sub r1 r2 e3 fun w H2 Hs2 g2 => k w H2 Hs2 (g.trans g2)
noncomputable def cutD (xs : List D) (lo hi : Option Int) : List D := (xs.drop (HT.sIx xs.length 0 lo)).take (HT.sIx xs.length xs.length hi - HT.sIx xs.length 0 lo)
noncomputable abbrev Fo := Rho → Option (Option Int)
noncomputable def oNone : Fo := fun _ => some none
noncomputable def oSome (f : Fe) : Fo := fun ρ => match f ρ with
  | some (.int i) => some (some i)
  | _ => none
noncomputable def fSl (f : Fe) (lo hi : Fo) : Fe := fun ρ => match f ρ, lo ρ, hi ρ with
  | some (.lst xs), some l, some u => some (.lst (cutD xs l u))
  | _, _, _ => none
noncomputable def tFO (K : PySem.W.Frag) (f : Fo) : TO := fun σ H Q => ∃ ρ Hs o, StE K Hs H ρ σ ∧ f ρ = some o ∧ ∀ H' Hs', Grow Hs H Hs' H' → Q o H'
noncomputable def PFO (X : Cx) (K : PySem.W.Frag) (e : Option Expr) (f : Fo) : Prop := X.K = K → PO X e (tFO K f)
theorem PO.imp {X : Cx} {e : Option Expr} {t t' : TO} (h : PO X e t) (i : ∀ σ H Q, t' σ H Q → t σ H Q) : PO X e t' := fun pins s σ H Q I q => h pins s σ H Q I (i σ H Q q)
theorem pfo_none : PFO X K none oNone := fun _ => PO.imp po_none fun σ H Q ⟨ρ, Hs, d, st, ef, k⟩ => by
  cases ef
  exact k H Hs (Grow.refl st.sub)
theorem pfo_some (h : PF X K e f) : PFO X K (some e) (oSome f) := fun hK => PO.imp (po_some (h hK)) fun σ H Q ⟨ρ, Hs, d, st, ef, k⟩ => by
  unfold oSome at ef
  split at ef
  · rename_i i q
    cases ef
    refine ⟨ρ, Hs, _, st, q, fun v H' Hs' g r => ?_⟩
    cases r
    exact ⟨i, rfl, k H' Hs' g⟩
  · cases ef
theorem cut_rep {Hs : Hp} {ds : List D} {vs : List V} (lo hi : Option Int) (r : Reps K Hs ds vs) : Reps K Hs (cutD ds lo hi) (cutV vs lo hi) := by
  unfold cutD cutV
  rw [r.length]
  exact (r.drop _).take _
theorem pf_slice {lo hi : Option Expr} {fl fh : Fo} {p2 : Pos} (ha : PF X K a f) (hl : PFO X K lo fl) (hh : PFO X K hi fh) : PF X K (.Subscript a (.Slice lo hi none p2) pos) (fSl f fl fh) := fun hK => PE.imp (pe_slice sl_list (ha hK) (hl hK) (hh hK)) fun σ H Q ⟨ρ, Hs, d, st, ef, k⟩ => by
  unfold fSl at ef
  split at ef
  · rename_i xs l u q1 q2 q3
    cases ef
    refine ⟨ρ, Hs, _, st, q1, fun v H1 Hs1 g1 r1 => ⟨ρ, Hs1, l, st.grow g1, q2, fun H2 Hs2 g2 => ⟨ρ, Hs2, u, (st.grow g1).grow g2, q3, fun H3 Hs3 g3 => ?_⟩⟩⟩
    cases r1 with
    | @lst a vs _ h1 r1 =>
      have hh := g3.sub _ _ (g3.hs _ _ (g2.hs _ _ h1))
      refine ⟨a, vs, rfl, SqL.of hh, fun p hp => ?_⟩
      have ga := Grow.alloc (o := .lst (cutV vs l u)) g3.sub hp
      exact k _ _ _ (((g1.trans g2).trans g3).trans ga) (.lst upd_same ((cut_rep l u ((r1.mono g2.hs).mono g3.hs)).mono ga.hs))
  · cases ef
noncomputable def gFld (C : Addr) (n : Str) : D → Option D
  | .ins C' ns ds => if C' = C then ((ns.zip ds).lookup n) else none
  | _ => none
theorem look_rep {Hs : Hp} {n : Str} {d : D} : ∀ {fs : List (Str × V)} {ds : List D}, Reps K Hs ds (fs.map (·.2)) → (((fs.map (·.1)).zip ds).lookup n) = some d → ∃ v, fs.lookup n = some v ∧ Rep K Hs d v
  | [], _, _, e => by simp at e
  | (m, w) :: fs, [], r, _ => by cases r
  | (m, w) :: fs, d' :: ds, r, e => by
    cases r with
    | cons r rs =>
      rw [List.map_cons, List.zip_cons_cons, List.lookup_cons] at e
      rw [List.lookup_cons]
      cases q : n == m with
      | true => rw [q] at e; cases e; exact ⟨w, rfl, r⟩
      | false => rw [q] at e; exact look_rep rs e
theorem pf_fld {C : Addr} {n : Str} (ha : PF X K a f) (hC : Cls K C) (hn : NoAttr K C n) (hb : attributeBase a n X.env (eval a X.env) = eval a X.env := by rfl) : PF X K (.Attribute a n pos) (f1 (gFld C n) f) := fun hK => by
  subst hK
  refine PE.imp (pe_fld (ha rfl) hb) fun σ H Q ⟨ρ, Hs, d, st, ef, k⟩ => ?_
  obtain ⟨x, e1, e2⟩ := bind1 ef
  refine ⟨ρ, Hs, x, st, e1, fun v H' Hs' g r => ?_⟩
  cases r with
  | @ins p C' dx fs ns ds h e r =>
    subst e
    have e3 : (if C' = C then (((fs.map (·.1)).zip ds).lookup n) else none) = some d := e2
    split at e3
    · rename_i he
      subst he
      obtain ⟨w, h1, h2⟩ := look_rep r e3
      exact ⟨p, C', dx, fs, w, rfl, g.sub _ _ h, hC, hn, h1, k w H' Hs' g h2⟩
    · cases e3
  | _ => cases e2
noncomputable def gSelf (C : Addr) (m : Str) (F : List D → Option D) : D → Option D
  | .ins C' ns ds => if C' = C ∧ m ∉ ns then F [.ins C' ns ds] else none
  | _ => none
structure Dm (P : Program) (w : World) (K : PySem.W.Frag) (mg : Str → Option Value) (base : Heap) (k : Nat) (C : Addr) (m : Str) (ps : List Str) (F : List D → Option D) : Prop where
  ex : ∃ (f : Addr) (fd : FuncData), Meth K C m f ∧ Binds K fd ps [] ∧ FnOk P w K mg base CX0 k f fd ps (spF K F)
theorem look_none {α : Type} {m : Str} : ∀ {fs : List (Str × α)}, m ∉ fs.map (·.1) → fs.lookup m = none
  | [], _ => rfl
  | (n, w) :: fs, h => by
    rw [List.map_cons, List.mem_cons] at h
    have hb : (m == n) = false := beq_eq_false_iff_ne.mpr fun e => h (.inl e)
    rw [List.lookup_cons, hb]
    exact look_none fun z => h (.inr z)
theorem pf_meth0 {k : Nat} {C : Addr} {m : Str} {ps : List Str} {F : List D → Option D} {apos : Pos} {pl : Sem Bool} (ha : PF X K a f) (hC : Cls K C) (hd : Dm X.prog X.w K X.mg X.base k C m ps F) (hr : Room k X.A)
    (ht : eval (.Call (.Attribute a m apos) [] [] pos) X.env = (do
      let ov ← eval a X.env
      standAt apos.atName
      let (f, first) ← holding [ov] (getMethod ov m pl)
      callWith pos f first (backTo pos (starEach [] X.env)) (backToKw pos (keywordEach [] X.env))) := by rfl) : PF X K (.Call (.Attribute a m apos) [] [] pos) (f1 (gSelf C m F) f) := fun hK => by
  subst hK
  obtain ⟨fa, fd, h1, h3, h4⟩ := hd.ex
  refine PE.imp (pe_meth0 (pl := pl) (ha rfl) hC h1 h4 hr h3 .nil pass0 ht) fun σ H Q ⟨ρ, Hs, d, st, ef, k⟩ => ?_
  obtain ⟨x, e1, e2⟩ := bind1 ef
  refine ⟨ρ, Hs, x, st, e1, fun v H' Hs' g r => ?_⟩
  cases r with
  | @ins p C' dx fs ns ds h e r =>
    have e3 : (if C' = C ∧ m ∉ ns then F [.ins C' ns ds] else none) = some d := e2
    split at e3
    · rename_i he
      obtain ⟨he, hn⟩ := he
      subst he
      subst e
      exact ⟨p, dx, fs, rfl, g.sub _ _ h, look_none hn, Hs', [_], d, g.sub, .cons (.ins h rfl r) .nil, e3, fun w H2 Hs2 g2 => k w H2 Hs2 (g.trans g2)⟩
    · cases e3
  | _ => cases e2
end
end DL
set_option maxHeartbeats 4000000
namespace DL
open PySem PySem.Spec L2
inductive Out where
  | nx (ρ : Rho)
  | rt (d : D)
noncomputable abbrev Fs := Rho → Option Out
structure St1 (K : PySem.W.Frag) (Hs₀ H₀ Hs H : Hp) (ρ : Rho) (σ : St) : Prop where
  st : StE K Hs H ρ σ
  gr : Grow Hs₀ H₀ Hs H
  fresh : ∀ (i : Nat) (ds : List D) (a : Addr), ρ[i]? = some (some (.own ds)) → σ[i]? = some (some (.ref a)) → H₀ a = none
  apart : ∀ (i j : Nat) (ds es : List D) (a : Addr), ρ[i]? = some (some (.own ds)) → ρ[j]? = some (some (.own es)) → σ[i]? = some (some (.ref a)) → σ[j]? = some (some (.ref a)) → i = j
noncomputable def oEnd (K : PySem.W.Frag) (Hs₀ H₀ Hs : Hp) (Dn : Ends) : Out → Prop
  | .nx ρ' => ∀ σ' H' Hs', St1 K Hs₀ H₀ Hs' H' ρ' σ' → Same Hs Hs' → Dn.nx σ' H'
  | .rt d => ∀ v H' Hs', Grow Hs₀ H₀ Hs' H' → Rep K Hs' d v → Dn.rt v H'
noncomputable def tFS (K : PySem.W.Frag) (g : Fs) : TS := fun Dn σ H => ∃ Hs₀ H₀ ρ Hs out, St1 K Hs₀ H₀ Hs H ρ σ ∧ g ρ = some out ∧ oEnd K Hs₀ H₀ Hs Dn out
theorem oEnd.weak {K : PySem.W.Frag} {Hs₀ H₀ Hs Hs' : Hp} {Dn : Ends} (s : Same Hs Hs') : ∀ {o : Out}, oEnd K Hs₀ H₀ Hs Dn o → oEnd K Hs₀ H₀ Hs' Dn o
  | .nx _, h => fun σ H Hs'' st q => h σ H Hs'' st (s.trans q)
  | .rt _, h => h
noncomputable def PFS (X : Cx) (K : PySem.W.Frag) (st : Stmt) (g : Fs) : Prop := X.K = K → PS X st (tFS K g)
noncomputable def PFSs (X : Cx) (K : PySem.W.Frag) (st : List Stmt) (g : Fs) : Prop := X.K = K → PSs X st (tFS K g)
section
variable {K : PySem.W.Frag} {Hs₀ H₀ Hs H Hs' H' : Hp} {ρ : Rho} {σ : St}
theorem St1.grow (s : St1 K Hs₀ H₀ Hs H ρ σ) (g : Grow Hs H Hs' H') : St1 K Hs₀ H₀ Hs' H' ρ σ := ⟨s.st.grow g, s.gr.trans g, s.fresh, s.apart⟩
theorem own_ne {i j : Nat} {s : Option Sl} {es : List D} (h : (ρ.set i s)[j]? = some (some (.own es))) (hs : ∀ es, s ≠ some (.own es)) : j ≠ i ∧ ρ[j]? = some (some (.own es)) := by
  by_cases hj : i = j
  · subst hj
    rw [List.getElem?_set] at h
    rw [if_pos rfl] at h
    split at h
    · exact absurd (Option.some.inj h) (hs es)
    · cases h
  · rw [List.getElem?_set_ne hj] at h
    exact ⟨Ne.symm hj, h⟩
theorem St1.set {i : Nat} {d : D} {v : V} (s : St1 K Hs₀ H₀ Hs H ρ σ) (r : Rep K Hs d v) : St1 K Hs₀ H₀ Hs H (ρ.set i (some (.val d))) (σ.set i (some v)) := by
  have no : ∀ es, (some (Sl.val d)) ≠ some (.own es) := fun es z => by cases z
  refine ⟨s.st.set r, s.gr, fun j ds a h1 h2 => ?_, fun j k ds es a h1 h2 h3 h4 => ?_⟩
  · obtain ⟨n1, n2⟩ := own_ne h1 no
    rw [List.getElem?_set_ne (Ne.symm n1)] at h2
    exact s.fresh j ds a n2 h2
  · obtain ⟨n1, m1⟩ := own_ne h1 no
    obtain ⟨n2, m2⟩ := own_ne h2 no
    rw [List.getElem?_set_ne (Ne.symm n1)] at h3
    rw [List.getElem?_set_ne (Ne.symm n2)] at h4
    exact s.apart j k ds es a m1 m2 h3 h4
theorem StE.ownAt {i : Nat} {ds : List D} (s : StE K Hs H ρ σ) (h : ρ[i]? = some (some (.own ds))) : ∃ a xs, σ[i]? = some (some (.ref a)) ∧ Hs a = none ∧ H a = some (.lst xs) ∧ Reps K Hs ds xs := by
  obtain ⟨v, h1, a, xs, rfl, h2, h3, h4⟩ := s.slot i _ h
  exact ⟨a, xs, h1, h2, h3, h4⟩
end
noncomputable def gSeq (g h : Fs) : Fs := fun ρ => (g ρ).bind fun o => match o with
  | .nx ρ' => h ρ'
  | .rt d => some (.rt d)
noncomputable def gNext : Fs := fun ρ => some (.nx ρ)
noncomputable def gSet (i : Nat) (f : Fe) : Fs := fun ρ => (f ρ).bind fun d => some (.nx (ρ.set i (some (.val d))))
noncomputable def gRet (f : Fe) : Fs := fun ρ => (f ρ).bind fun d => some (.rt d)
noncomputable def gIf (t : Rho → Option Bool) (g h : Fs) : Fs := fun ρ => (t ρ).bind fun b => if b then g ρ else h ρ
section
variable {X : Cx} {K : PySem.W.Frag} {st : Stmt} {sts body : List Stmt} {g h : Fs} {e : Expr} {es : List Expr} {f : Fe} {pos : Pos} {as : Rho → Option (List D)} {t : Rho → Option Bool} {c : Expr}
theorem pss_nilF : PFSs X K [] gNext := fun _ => PSs.imp pss_nil fun Dn σ H ⟨Hs₀, H₀, ρ, Hs, out, s, ef, k⟩ => by
  cases ef
  exact k σ H Hs s (Same.refl _)
theorem pss_consF (h1 : PFS X K st g) (h2 : PFSs X K sts h) : PFSs X K (st :: sts) (gSeq g h) := fun hK => PSs.imp (pss_cons (h1 hK) (h2 hK)) fun Dn σ H ⟨Hs₀, H₀, ρ, Hs, out, s, ef, k⟩ => by
  obtain ⟨o, e1, e2⟩ := bind1 ef
  refine ⟨Hs₀, H₀, ρ, Hs, o, s, e1, ?_⟩
  cases o with
  | rt d => cases e2; exact k
  | nx ρ' => exact fun σ' H' Hs' s' q => ⟨Hs₀, H₀, ρ', Hs', out, s', e2, k.weak q⟩
theorem pss_oneF (h1 : PFS X K st g) : PFSs X K [st] g := fun hK => pss_one (h1 hK)
theorem ps_setF (i : Nat) {x : Str} {pos' : Pos} (hN : X.N.Nodup) (he : PF X K e f) (hi : X.N[i]? = some x := by rfl) (hx : Loc X.env.scope x := by first | exact Or.inl rfl | exact Or.inr rfl) (hs : swapsWith e (some (.Name x pos')) pos.line X.env = pure false := by rfl)
    (hf : X.fn x = true ∨ X.env.scope.names.lookup x = some .local := by first | exact .inl rfl | exact .inr rfl | assumption) : PFS X K (.Assign [.Name x pos'] e pos) (gSet i f) := fun hK => PS.imp (ps_set hN hi hx (he hK) hs hf) fun Dn σ H ⟨Hs₀, H₀, ρ, Hs, out, s, ef, k⟩ => by
  obtain ⟨d, e1, e2⟩ := bind1 ef
  cases e2
  exact ⟨ρ, Hs, d, s.st, e1, fun v H' Hs' g r => k _ H' Hs' ((s.grow g).set r) g.hs⟩
theorem ps_retF (he : PF X K e f) : PFS X K (.Return (some e) pos) (gRet f) := fun hK => PS.imp (ps_ret (he hK)) fun Dn σ H ⟨Hs₀, H₀, ρ, Hs, out, s, ef, k⟩ => by
  obtain ⟨d, e1, e2⟩ := bind1 ef
  cases e2
  exact ⟨ρ, Hs, d, s.st, e1, fun v H' Hs' g r => k v H' Hs' (s.gr.trans g) r⟩
theorem ps_ifF {sa sb : List Stmt} (hc : PFT X K c t) (ha : PFSs X K sa g) (hb : PFSs X K sb h) : PFS X K (.If c sa sb pos) (gIf t g h) := fun hK => PS.imp (ps_if (hc hK) (ha hK) (hb hK)) fun Dn σ H ⟨Hs₀, H₀, ρ, Hs, out, s, ef, k⟩ => by
  obtain ⟨b, e1, e2⟩ := bind1 ef
  refine ⟨ρ, Hs, b, s.st, e1, fun H' Hs' gr => ?_⟩
  cases b with
  | true => rw [if_pos rfl] at e2 ⊢; exact ⟨Hs₀, H₀, ρ, Hs', out, s.grow gr, e2, k.weak gr.hs⟩
  | false => rw [if_neg Bool.false_ne_true] at e2 ⊢; exact ⟨Hs₀, H₀, ρ, Hs', out, s.grow gr, e2, k.weak gr.hs⟩
noncomputable def ItD (K : PySem.W.Frag) (J : It) (Hs₀ : Hp) (ds : List D) : Prop :=
  ∀ (i : Nat) (Hs H : Hp), Same Hs₀ Hs → Same Hs H → (∀ d, ds[i]? = some d → J.go i H ∧ ∀ x H', J.yld i H x H' → ∃ Hs', Grow Hs H Hs' H' ∧ Rep K Hs' d x) ∧ (ds.length ≤ i → J.stop i H)
noncomputable abbrev Fi := Rho → Option (List D)
noncomputable def tFI (K : PySem.W.Frag) (fi : Fi) : TI := fun σ H R => ∃ ρ Hs ds, StE K Hs H ρ σ ∧ fi ρ = some ds ∧ ∀ J H' Hs', Grow Hs H Hs' H' → ItD K J Hs' ds → R J H'
noncomputable def PFI (X : Cx) (K : PySem.W.Frag) (tg iter : Expr) (fi : Fi) : Prop := X.K = K → PI X tg iter (tFI K fi)
noncomputable def iLst (f : Fe) : Fi := fun ρ => match f ρ with
  | some (.lst ds) => some ds
  | _ => none
noncomputable def iRng (f : Fe) : Fi := fun ρ => match f ρ with
  | some (.int j) => if -(2 ^ 62) ≤ j ∧ j < 2 ^ 62 then some ((List.range j.toNat).map fun (k : Nat) => D.int (k : Int)) else none
  | _ => none
theorem itd_list {a : Addr} {xs : List V} {ds : List D} {Hs : Hp} (h : Hs a = some (.lst xs)) (r : Reps K Hs ds xs) : ItD K (Itl K a) Hs ds := by
  intro i Hs1 H s1 s2
  have hH : H a = some (.lst xs) := s2 _ _ (s1 _ _ h)
  refine ⟨fun d e => ?_, fun hl => ⟨xs, SqL.of hH, by rw [← r.length]; exact hl⟩⟩
  obtain ⟨v, h1, h2⟩ := r.get e
  refine ⟨⟨xs, v, SqL.of hH, h1⟩, fun x H' y => ?_⟩
  obtain ⟨e1, y⟩ := y
  subst e1
  have := y xs (SqL.of hH)
  rw [h1] at this
  cases this
  exact ⟨Hs1, Grow.refl s2, h2.mono s1⟩
theorem pi_listF {tg : Expr} (he : PF X K e f) : PFI X K tg e (iLst f) := fun hK => by
  subst hK
  refine PI.imp (pi_list (he rfl)) fun σ H R ⟨ρ, Hs, ds, st, ef, k⟩ => ?_
  unfold iLst at ef
  split at ef
  · rename_i ds' q
    cases ef
    refine ⟨ρ, Hs, _, st, q, fun v H' Hs' g r => ?_⟩
    cases r with
    | @lst a xs _ h1 r1 => exact ⟨a, rfl, ⟨xs, SqL.of (g.sub _ _ h1)⟩, k _ H' Hs' g (itd_list h1 r1)⟩
  · cases ef
theorem itd_range (n : Nat) {Hs : Hp} : ItD K (Itr 0 n) Hs ((List.range n).map fun (k : Nat) => D.int (k : Int)) := by
  intro i Hs1 H s1 s2
  refine ⟨fun d e => ?_, fun hl => show n ≤ i by simpa using hl⟩
  have hi : i < n := by
    have := (List.getElem?_eq_some_iff.mp e).1
    simpa using this
  have hd : d = .int (i : Int) := by
    rw [List.getElem?_map, List.getElem?_range hi] at e
    exact (Option.some.inj e).symm
  subst hd
  refine ⟨hi, fun x H' y => ?_⟩
  obtain ⟨e1, e2⟩ := y
  subst e1 e2
  rw [Int.zero_add]
  exact ⟨Hs1, Grow.refl s2, .int _⟩
theorem pi_rangeF {tg a : Expr} {p : Pos} (hg : Gl X "range") (hm : X.mg "range" = none) (ha : PF X K a f) (hs : starEach [a] X.env = [(false, eval a X.env)] := by rfl) : PFI X K tg (.Call (.Name "range" p) [a] [] pos) (iRng f) := fun hK => by
  refine PI.imp (pi_range1 hg hm (pa_cons (ha hK) pa_nil hs) hs) fun σ H R ⟨ρ, Hs, ds, st, ef, k⟩ => ?_
  unfold iRng at ef
  split at ef
  · rename_i j q
    split at ef
    · rename_i hj
      cases ef
      refine ⟨ρ, Hs, _, st, q, fun v H' Hs' g r => ?_⟩
      cases r
      exact ⟨j, rfl, hj.1, hj.2, k _ H' Hs' g (itd_range _)⟩
    · cases ef
  · cases ef
noncomputable abbrev Ft := D → Rho → Option Rho
noncomputable def OwnKept (ρ : Rho) (σ : St) (ρ' : Rho) (σ' : St) : Prop := ∀ (i : Nat) (ds : List D), ρ'[i]? = some (some (.own ds)) → ρ[i]? = some (some (.own ds)) ∧ σ'[i]? = σ[i]?
theorem OwnKept.set {ρ : Rho} {σ : St} {i : Nat} {d : D} {v : V} : OwnKept ρ σ (ρ.set i (some (.val d))) (σ.set i (some v)) := fun j ds h => by
  obtain ⟨n, h⟩ := own_ne h (fun es z => by cases z)
  exact ⟨h, List.getElem?_set_ne (Ne.symm n)⟩
noncomputable def tFG (K : PySem.W.Frag) (ft : Ft) : TG := fun v σ H Q => ∃ ρ Hs d ρ', StE K Hs H ρ σ ∧ Rep K Hs d v ∧ ft d ρ = some ρ' ∧
  ∀ σ' H' Hs', Grow Hs H Hs' H' → StE K Hs' H' ρ' σ' → (∀ Hs₀ H₀, St1 K Hs₀ H₀ Hs H ρ σ → St1 K Hs₀ H₀ Hs' H' ρ' σ') → OwnKept ρ σ ρ' σ' → Q σ' H'
noncomputable def PFG (X : Cx) (K : PySem.W.Frag) (tg : Expr) (ft : Ft) : Prop := X.K = K → PG X tg (tFG K ft)
noncomputable def tName (i : Nat) : Ft := fun d ρ => some (ρ.set i (some (.val d)))
theorem pg_nameF (i : Nat) {x : Str} (hN : X.N.Nodup) (hi : X.N[i]? = some x := by rfl) (hx : Loc X.env.scope x := by first | exact Or.inl rfl | exact Or.inr rfl) (hf : X.fn x = true ∨ X.env.scope.names.lookup x = some .local := by first | exact .inl rfl | exact .inr rfl | assumption) :
    PFG X K (.Name x pos) (tName i) := fun _ => PG.imp (pg_name hN hi hx hf) fun v σ H Q ⟨ρ, Hs, d, ρ', st, r, ef, k⟩ => by
  cases ef
  exact k _ H Hs (Grow.refl st.sub) (st.set r) (fun _ _ s => s.set r) OwnKept.set
end
end DL
set_option maxHeartbeats 4000000
namespace DL
open PySem PySem.Spec L2
noncomputable def rhoIn (n : Nat) (fr : List (Str × Nat)) (ρ : Rho) : Rho := List.replicate n none ++ fr.map fun p => (ρ[p.2]?).join
noncomputable def reset (n : Nat) (ρ : Rho) : Rho := List.replicate (min n ρ.length) none ++ ρ.drop n
noncomputable def compD (n : Nat) (ft : Ft) (t : Rho → Option Bool) (f : Fe) : List D → Rho → Option (List D)
  | [], _ => some []
  | d :: ds, ρ => (ft d ρ).bind fun ρ1 => (t ρ1).bind fun b => if b then (f ρ1).bind fun y => (compD n ft t f ds (reset n ρ1)).bind fun ys => some (y :: ys) else compD n ft t f ds (reset n ρ1)
noncomputable def fComp (n : Nat) (fr : List (Str × Nat)) (fi : Fi) (ft : Ft) (t : Rho → Option Bool) (f : Fe) : Fe := fun ρ => (fi ρ).bind fun ds => if ds.length ≤ sizeLine then (compD n ft t f ds (rhoIn n fr ρ)).bind fun ys => some (.lst ys) else none
noncomputable def bTrue : Rho → Option Bool := fun _ => some true
noncomputable def PFIf (X : Cx) (K : PySem.W.Frag) (ifs : List Expr) (t : Rho → Option Bool) : Prop := X.K = K → PIfs X ifs (tFT K t)
theorem PIfs.imp {X : Cx} {e : List Expr} {t t' : TT} (h : PIfs X e t) (i : ∀ σ H Q, t' σ H Q → t σ H Q) : PIfs X e t' := fun pins s σ H Q I q => h pins s σ H Q I (i σ H Q q)
theorem if_nil {X : Cx} {K : PySem.W.Frag} : PFIf X K [] bTrue := fun _ => PIfs.imp pifs_nil fun σ H Q ⟨ρ, Hs, b, st, ef, k⟩ => by
  cases ef
  exact k H Hs (Grow.refl st.sub)
section
variable {K : PySem.W.Frag} {Hs H : Hp} {ρ : Rho} {σ : St}
theorem StE.inn (n : Nat) (fr : List (Str × Nat)) (s : StE K Hs H ρ σ) : StE K Hs H (rhoIn n fr ρ) (compSt n fr σ) := by
  refine ⟨s.sub, by unfold rhoIn compSt; simp, fun i t e => ?_⟩
  unfold rhoIn at e
  unfold compSt
  by_cases hi : i < n
  · rw [List.getElem?_append_left (by simpa using hi), List.getElem?_replicate, if_pos hi] at e
    cases e
  · rw [List.getElem?_append_right (by simp; lia), List.length_replicate, List.getElem?_map] at e
    rw [List.getElem?_append_right (by simp; lia), List.length_replicate, List.getElem?_map]
    cases q : fr[i - n]? with
    | none => rw [q] at e; cases e
    | some p =>
      rw [q] at e
      have e' : (ρ[p.2]?).join = some t := Option.some.inj e
      have e2 : ρ[p.2]? = some (some t) := by
        cases r : ρ[p.2]? with
        | none => rw [r] at e'; cases e'
        | some z => rw [r] at e'; simp at e'; rw [e']
      obtain ⟨v, h1, h2⟩ := s.slot p.2 t e2
      refine ⟨v, ?_, h2⟩
      show some ((σ[p.2]?).join) = some (some v)
      rw [h1]
      rfl
theorem reset_get {n i : Nat} {s : Sl} (e : (reset n ρ)[i]? = some (some s)) : ρ[i]? = some (some s) := by
  unfold reset at e
  by_cases hi : i < min n ρ.length
  · rw [List.getElem?_append_left (by simpa using hi), List.getElem?_replicate, if_pos hi] at e
    cases e
  · rw [List.getElem?_append_right (by simp; lia), List.length_replicate, List.getElem?_drop] at e
    by_cases hn : n ≤ ρ.length
    · rw [Nat.min_eq_left hn] at e hi
      rw [show n + (i - n) = i by lia] at e
      exact e
    · rw [Nat.min_eq_right (by lia)] at e
      rw [List.getElem?_eq_none (by lia)] at e
      cases e
theorem StE.reset (n : Nat) (s : StE K Hs H ρ σ) : StE K Hs H (DL.reset n ρ) σ := by
  refine s.weak ?_ fun i t e => reset_get e
  unfold DL.reset
  rw [List.length_append, List.length_replicate, List.length_drop]
  lia
end
section
variable {X : Cx} {K : PySem.W.Frag} {sc : Scope} {own : List Str} {fr : List (Str × Nat)} {tg elt iter : Expr} {ifs : List Expr} {fi : Fi} {ft : Ft} {t : Rho → Option Bool} {f : Fe} {pos : Pos}
theorem comp_rd {σ : St} {H : Hp} {Q : VK} {ρ : Rho} {Hs : Hp} {J : It} {ds ys : List D} (st : StE K Hs H ρ σ) (it : ItD K J Hs ds) (hz : ds.length ≤ sizeLine) (e : compD own.length ft t f ds (rhoIn own.length fr ρ) = some ys)
    (k : ∀ v H' Hs', Grow Hs H Hs' H' → Rep K Hs' (.lst ys) v → Q v H') : rdComp own.length fr (tFG K ft) (tFT K t) (tF K f) σ J H Q := by
  intro l hl
  have hsl : Hs l = none := st.sub.free hl
  refine ⟨fun i m vs σ' H' => ∃ ρ' Hs' zs rest, StE K Hs' H' ρ' σ' ∧ (∀ (j : Nat) (es : List D) (a : Addr), ρ'[j]? = some (some (.own es)) → σ'[j]? = some (some (.ref a)) → a ≠ l) ∧ Grow Hs H Hs' H' ∧ Hs' l = none ∧ H' l = some (.lst vs) ∧ Reps K Hs' zs vs ∧ m = ds.length - i ∧ i ≤ ds.length ∧ zs.length ≤ i ∧ compD own.length ft t f (ds.drop i) ρ' = some rest ∧ zs ++ rest = ys, ?_, ?_⟩
  · have sub : Same Hs (upd H l (.lst [])) := sm_updR st.sub hsl
    have g0 : Grow Hs H Hs (upd H l (.lst [])) := ⟨Same.refl _, sm_upd hl, sub, fun b h e => absurd e h⟩
    have ap0 : ∀ (j : Nat) (es : List D) (a : Addr), (rhoIn own.length fr ρ)[j]? = some (some (.own es)) → (compSt own.length fr σ)[j]? = some (some (.ref a)) → a ≠ l := fun j es a h1 h2 z => by
      obtain ⟨a', xs, q1, q2, q3, q4⟩ := (st.inn own.length fr).ownAt h1
      rw [h2] at q1
      cases q1
      rw [z, hl] at q3
      cases q3
    exact ⟨_, _, Hs, [], ys, (st.inn _ _).grow g0, ap0, g0, hsl, upd_same, .nil, rfl, Nat.zero_le _, Nat.le_refl _, e, rfl⟩
  · rintro i m vs σ1 H1 ⟨ρ1, Hs1, zs, rest, s1, ap1, g1, n1, h1, r1, rfl, hi, hzs, e1, ee⟩
    obtain ⟨go, stop⟩ := it i Hs1 H1 g1.hs s1.sub
    by_cases hlt : i < ds.length
    · right
      have hd : ds[i]? = some ds[i] := by simp [hlt]
      obtain ⟨go1, yl⟩ := go _ hd
      refine ⟨go1, fun x H2 y => ?_⟩
      obtain ⟨Hs2, g2, r2⟩ := yl x H2 y
      rw [List.drop_eq_getElem_cons hlt] at e1
      obtain ⟨ρ3, e3, e4⟩ := bind1 e1
      obtain ⟨b, e5, e6⟩ := bind1 e4
      have keepN : ∀ {Ha Hsa Hb Hsb : Hp}, Grow Hsa Ha Hsb Hb → Hsa l = none → (∃ o, Ha l = some o) → Hsb l = none := fun {Ha Hsa Hb Hsb} g hn ⟨o, ho⟩ => by
        cases q : Hsb l with
        | none => rfl
        | some u =>
          have := g.new l (by rw [q]; simp) hn
          rw [ho] at this; cases this
      have n2 := keepN g2 n1 ⟨_, h1⟩
      refine ⟨ρ1, Hs2, _, ρ3, s1.grow g2, r2, e3, fun σ4 H4 Hs4 g4 s4 _ ok4 => ?_⟩
      have ap4 : ∀ (j : Nat) (es : List D) (a : Addr), (reset own.length ρ3)[j]? = some (some (.own es)) → σ4[j]? = some (some (.ref a)) → a ≠ l := fun j es a q1 q2 => by
        obtain ⟨q3, q4⟩ := ok4 j es (reset_get q1)
        exact ap1 j es a q3 (q4 ▸ q2)
      have h2 := g2.h _ _ h1
      have n4 := keepN g4 n2 ⟨_, h2⟩
      have h4 := g4.h _ _ h2
      refine ⟨ρ3, Hs4, b, s4, e5, fun H5 Hs5 g5 => ?_⟩
      have n5 := keepN g5 n4 ⟨_, h4⟩
      have h5 := g5.h _ _ h4
      have gg := ((g1.trans g2).trans g4).trans g5
      have r5 := ((r1.mono g2.hs).mono g4.hs).mono g5.hs
      cases b with
      | false =>
        rw [if_neg Bool.false_ne_true] at e6
        refine iteF ?_
        exact ⟨ds.length - (i + 1), by lia, _, Hs5, zs, rest, (s4.grow g5).reset _, ap4, gg, n5, h5, r5, rfl, hlt, Nat.le_succ_of_le hzs, e6, ee⟩
      | true =>
        rw [if_pos rfl] at e6
        refine iteT ?_
        obtain ⟨y', e7, e8⟩ := bind1 e6
        obtain ⟨ys', e9, e10⟩ := bind1 e8
        cases e10
        refine ⟨ρ3, Hs5, y', s4.grow g5, e7, fun v H6 Hs6 g6 r6 => ?_⟩
        have n6 := keepN g6 n5 ⟨_, h5⟩
        have h6 := g6.h _ _ h5
        have lenv := r1.length
        refine ⟨h6, by lia, ds.length - (i + 1), by lia, _, Hs6, zs ++ [y'], ys', ?_, ap4, ?_, n6, upd_same, (r5.mono g6.hs).append (.cons r6 .nil), rfl, hlt, by rw [List.length_append]; exact Nat.succ_le_succ hzs, e9, by rw [List.append_assoc]; exact ee⟩
        · have s6 := ((s4.grow g5).grow g6).reset own.length
          refine ⟨sm_updR s6.sub n6, s6.len, fun j sl ej => ?_⟩
          obtain ⟨w, q1, q2⟩ := s6.slot j sl ej
          refine ⟨w, q1, ?_⟩
          cases sl with
          | val d => exact q2
          | own es =>
            obtain ⟨a, us, rfl, k1, k2, k3⟩ := q2
            exact ⟨a, us, rfl, k1, by rw [upd_ne (ap4 j es a ej q1)]; exact k2, k3⟩
        · have g7 := gg.trans g6
          have hH : ∀ b o, H b = some o → b ≠ l := fun b o ho z => by rw [z, hl] at ho; cases ho
          exact ⟨g7.hs, fun b o ho => by rw [upd_ne (hH b o ho)]; exact g7.h b o ho, sm_updR g7.sub n6, g7.new⟩
    · left
      have hi' : i = ds.length := by lia
      subst hi'
      rw [List.drop_length] at e1
      cases e1
      rw [List.append_nil] at ee
      subst ee
      refine ⟨stop (Nat.le_refl _), ?_⟩
      have hs : Same Hs1 (upd Hs1 l (.lst vs)) := sm_upd n1
      refine k _ H1 (upd Hs1 l (.lst vs)) ⟨g1.hs.trans hs, g1.h, ?_, ?_⟩ (.lst upd_same (r1.mono hs))
      · intro b o ho
        by_cases hb : b = l
        · subst hb; rw [upd_same] at ho; cases ho; exact h1
        · rw [upd_ne hb] at ho; exact g1.sub b o ho
      · intro b hb he
        by_cases hb2 : b = l
        · rw [hb2]; exact hl
        · rw [upd_ne hb2] at hb; exact g1.new b hb he
theorem pf_comp (hc : X.calm = true) (S : CScope X sc own fr) (hi : PFI X K tg iter fi) (hg : ∀ s H pins fp, PFG (compCx X sc own fr s H pins fp) K tg ft) (ht : ∀ s H pins fp, PFIf (compCx X sc own fr s H pins fp) K ifs t)
    (he : ∀ s H pins fp, PF (compCx X sc own fr s H pins fp) K elt f) (hs : ∀ x, foldedSetIterable iter X.env x = pure x := by intro _; rfl) :
    PF X K (.ListComp elt [⟨tg, iter, ifs, 0⟩] sc pos) (fComp own.length fr fi ft t f) := fun hK => by
  refine PE.imp (pe_comp hc S (hi hK) (fun s H pins fp => hg s H pins fp hK) (fun s H pins fp => ht s H pins fp hK) (fun s H pins fp => he s H pins fp hK) hs) fun σ H Q ⟨ρ, Hs, d, st, ef, k⟩ => ?_
  obtain ⟨ds, e1, e2⟩ := bind1 ef
  split at e2
  · rename_i hz
    obtain ⟨ys, e3, e4⟩ := bind1 e2
    cases e4
    exact ⟨ρ, Hs, ds, st, e1, fun J H' Hs' g it => comp_rd (st.grow g) it hz e3 fun v H2 Hs2 g2 => k v H2 Hs2 (g.trans g2)⟩
  · cases e2
end
noncomputable def startR (N : List Str) (ds : List D) : Rho := ds.map (fun d => some (.val d)) ++ List.replicate (N.length - ds.length) none
noncomputable def runD (g : Fs) (ρ : Rho) : Option D := match g ρ with
  | some (.rt d) => some d
  | some (.nx _) => some .non
  | none => none
theorem start_st {K : PySem.W.Frag} {N : List Str} {Hs H : Hp} {ds : List D} {vs : List V} (s : Same Hs H) (r : Reps K Hs ds vs) (hl : ds.length ≤ N.length) : St1 K Hs H Hs H (startR N ds) (L2.start N vs) := by
  have no : ∀ (i : Nat) (es : List D), (startR N ds)[i]? ≠ some (some (.own es)) := fun i es e => by
    unfold startR at e
    by_cases hi : i < ds.length
    · rw [List.getElem?_append_left (by simpa using hi), List.getElem?_map] at e
      cases q : ds[i]? with
      | none => rw [q] at e; cases e
      | some d => rw [q] at e; cases e
    · rw [List.getElem?_append_right (by simp; lia), List.getElem?_replicate] at e
      split at e <;> cases e
  refine ⟨⟨s, ?_, fun i t e => ?_⟩, Grow.refl s, fun i es a h => absurd h (no i es), fun i j es fs a h => absurd h (no i es)⟩
  · unfold startR L2.start
    simp [r.length]
  · unfold startR at e
    unfold L2.start
    by_cases hi : i < ds.length
    · rw [List.getElem?_append_left (by simpa using hi), List.getElem?_map] at e
      cases q : ds[i]? with
      | none => rw [q] at e; cases e
      | some d =>
        rw [q] at e
        cases e
        obtain ⟨v, h1, h2⟩ := r.get q
        refine ⟨v, ?_, h2⟩
        rw [List.getElem?_append_left (by rw [List.length_map, ← r.length]; exact hi), List.getElem?_map, h1]
        rfl
    · rw [List.getElem?_append_right (by simp; lia), List.getElem?_replicate] at e
      split at e <;> cases e
section
variable {P : Program} {w : World} {K : PySem.W.Frag} {mg : Str → Option Value} {base : Heap}
theorem fn_F {x qual : Str} {st : Stmt} {f : Addr} {fd : FuncData} {N ps : List Str} {k : Nat} {F : List D → Option D} {g : Fs} (U : Fun K x qual st f fd) (S : FnScope N ps (defScope st)) (hlen : ∀ ds d, F ds = some d → ds.length = ps.length)
    (hbody : ∀ (cdv : Value) (A : Around) (outer : List Env) (s : Shared) (H : Hp) (E : XK), Room k (A.deeper (PyProof.Rows.envOfC qual (defScope st) s.heap.objs.size f cdv)) →
      PFSs (cxOf CX0 P w K mg base N qual (defScope st) f cdv A outer s H E).nox K (defBody st) g)
    (hF : ∀ ds d, F ds = some d → runD g (startR N ds) = some d) : FnOk P w K mg base CX0 (k + 1) f fd ps (spF K F) := by
  have hpl : ps.length ≤ N.length := by have := congrArg List.length S.pre; rw [List.length_take] at this; lia
  refine U.ok S (fun vs H Q E ⟨Hs, ds, d, s, r, e, q⟩ => by rw [← r.length]; exact hlen ds d e) fun cdv A outer s H vs Q E hr ⟨Hs, ds, d, sm, r, e, q⟩ => ?_
  refine ⟨_, hbody cdv A outer s H E hr rfl, ?_⟩
  have e2 := hF ds d e
  have hl := hlen ds d e
  unfold runD at e2
  have s0 : St1 K Hs H Hs H (startR N ds) (L2.start N vs) := start_st sm r (by lia)
  split at e2
  · rename_i d' q1
    cases e2
    exact ⟨Hs, H, _, Hs, _, s0, q1, fun v H' Hs' g rv => q v H' Hs' g rv⟩
  · rename_i ρ' q1
    cases e2
    exact ⟨Hs, H, _, Hs, _, s0, q1, fun σ' H' Hs' s' _ => q _ H' Hs' s'.gr .non⟩
  · cases e2
theorem df_F {x : Str} {st : Stmt} {f : Addr} {fd : FuncData} {N ps : List Str} {k : Nat} {F : List D → Option D} {g : Fs} (hm : mg x = some (.ref f)) (U : Fun K x x st f fd) (hb : Binds K fd ps []) (S : FnScope N ps (defScope st)) (hlen : ∀ ds d, F ds = some d → ds.length = ps.length)
    (hbody : ∀ (cdv : Value) (A : Around) (outer : List Env) (s : Shared) (H : Hp) (E : XK), Room k (A.deeper (PyProof.Rows.envOfC x (defScope st) s.heap.objs.size f cdv)) →
      PFSs (cxOf CX0 P w K mg base N x (defScope st) f cdv A outer s H E).nox K (defBody st) g)
    (hF : ∀ ds d, F ds = some d → runD g (startR N ds) = some d) : Df P w K mg base (k + 1) x ps F :=
  ⟨f, fd, hm, U.kp, hb, fn_F U S hlen hbody hF⟩
end
end DL
set_option maxHeartbeats 4000000
namespace DL
open PySem PySem.Spec L2
noncomputable def gAdd : D → D → Option D
  | .int i, .int j => some (.int (i + j))
  | .lst xs, .lst ys => if xs.length + ys.length ≤ sizeLine then some (.lst (xs ++ ys)) else none
  | _, _ => none
noncomputable def gSub : D → D → Option D
  | .int i, .int j => some (.int (i - j))
  | _, _ => none
noncomputable def gMul : D → D → Option D
  | .int i, .int j => if (-(2 ^ 64) < i ∧ i < 2 ^ 64) ∨ (-(2 ^ 64) < j ∧ j < 2 ^ 64) then some (.int (i * j)) else none
  | .lst xs, .int k => if -(2 ^ 63) ≤ k ∧ k < 2 ^ 63 ∧ xs.length * k.toNat ≤ sizeLine then some (.lst (List.replicate k.toNat xs).flatten) else none
  | _, _ => none
noncomputable def gMod : D → D → Option D
  | .int i, .int j => if 0 < j then some (.int (i % j)) else none
  | _, _ => none
noncomputable def gFdiv : D → D → Option D
  | .int i, .int j => if 0 < j ∧ j < 1073741824 then some (.int (i / j)) else none
  | _, _ => none
noncomputable def gLt : D → D → Option D
  | .int i, .int j => some (.bl (decide (i < j)))
  | _, _ => none
noncomputable def gLe : D → D → Option D
  | .int i, .int j => some (.bl (decide (i ≤ j)))
  | _, _ => none
noncomputable def gGt : D → D → Option D
  | .int i, .int j => some (.bl (decide (j < i)))
  | _, _ => none
noncomputable def isNon : D → Bool
  | .non => true
  | _ => false
noncomputable def gIs : D → D → Option D
  | x, .non => some (.bl (isNon x))
  | _, _ => none
section
variable {X : Cx} {K : PySem.W.Frag}
theorem ite_some {α : Type} {c : Prop} [Decidable c] {x z : α} (e : (if c then some x else none) = some z) : c ∧ x = z := by
  split at e
  · rename_i h; exact ⟨h, Option.some.inj e⟩
  · cases e
theorem a_add : Op2 K (fun x y H Q => (rI0 fun i j => .int (i + j)) x y H Q ∨ rCat x y H Q) gAdd := by
  intro Hs H x y z u v Q s rx ry e q
  cases rx with
  | int i =>
    cases ry with
    | int j => cases e; exact .inl ⟨i, j, rfl, rfl, q _ H Hs (Grow.refl s) (.int _)⟩
    | _ => cases e
  | @lst a vs ds h1 r1 =>
    cases ry with
    | @lst b us es h2 r2 =>
      obtain ⟨hz, rfl⟩ := ite_some (show (if ds.length + es.length ≤ sizeLine then some (D.lst (ds ++ es)) else none) = some z from e)
      refine .inr ⟨a, b, vs, us, rfl, rfl, s _ _ h1, s _ _ h2, by rw [← r1.length, ← r2.length]; exact hz, fun p hp => ?_⟩
      have ga := Grow.alloc (o := .lst (vs ++ us)) s hp
      exact q _ _ _ ga (.lst upd_same ((r1.append r2).mono ga.hs))
    | _ => cases e
  | _ => cases e
theorem o_add : OpR X (binaryOp .Add) (fun x y H Q => (rI0 fun i j => .int (i + j)) x y H Q ∨ rCat x y H Q) := op_add.or op_cat
theorem a_sub : Op2 K (rI0 fun i j => .int (i - j)) gSub := by
  intro Hs H x y z u v Q s rx ry e q
  cases rx with
  | int i =>
    cases ry with
    | int j => cases e; exact ⟨i, j, rfl, rfl, q _ H Hs (Grow.refl s) (.int _)⟩
    | _ => cases e
  | _ => cases e
theorem Reps.rep {Hs : Hp} {ds : List D} {vs : List V} (h : Reps K Hs ds vs) : ∀ k : Nat, Reps K Hs (List.replicate k ds).flatten (List.replicate k vs).flatten
  | 0 => .nil
  | k + 1 => by
    rw [List.replicate_succ, List.replicate_succ, List.flatten_cons, List.flatten_cons]
    exact h.append (Reps.rep h k)
theorem a_mul : Op2 K (fun x y H Q => (rI CMul fun i j => .int (i * j)) x y H Q ∨ rRep x y H Q) gMul := by
  intro Hs H x y z u v Q s rx ry e q
  cases rx with
  | int i =>
    cases ry with
    | int j =>
      obtain ⟨hc, rfl⟩ := ite_some (show (if (-(2 ^ 64) < i ∧ i < 2 ^ 64) ∨ (-(2 ^ 64) < j ∧ j < 2 ^ 64) then some (D.int (i * j)) else none) = some z from e)
      exact .inl ⟨i, j, rfl, rfl, hc, q _ H Hs (Grow.refl s) (.int _)⟩
    | _ => cases e
  | @lst a vs ds h1 r1 =>
    cases ry with
    | int k =>
      obtain ⟨hc, rfl⟩ := ite_some (show (if -(2 ^ 63) ≤ k ∧ k < 2 ^ 63 ∧ ds.length * k.toNat ≤ sizeLine then some (D.lst (List.replicate k.toNat ds).flatten) else none) = some z from e)
      refine .inr ⟨a, k, vs, rfl, rfl, s _ _ h1, hc.1, hc.2.1, by rw [← r1.length]; exact hc.2.2, fun p hp => ?_⟩
      have ga := Grow.alloc (o := .lst (List.replicate k.toNat vs).flatten) s hp
      exact q _ _ _ ga (.lst upd_same ((r1.rep _).mono ga.hs))
    | _ => cases e
  | _ => cases e
theorem o_mul : OpR X (binaryOp .Mult) (fun x y H Q => (rI CMul fun i j => .int (i * j)) x y H Q ∨ rRep x y H Q) := op_mul.or op_rep
theorem a_mod : Op2 K (rI (fun _ j => 0 < j) fun i j => .int (i % j)) gMod := by
  intro Hs H x y z u v Q s rx ry e q
  cases rx with
  | int i =>
    cases ry with
    | int j =>
      obtain ⟨hc, rfl⟩ := ite_some (show (if 0 < j then some (D.int (i % j)) else none) = some z from e)
      exact ⟨i, j, rfl, rfl, hc, q _ H Hs (Grow.refl s) (.int _)⟩
    | _ => cases e
  | _ => cases e
theorem a_fdiv : Op2 K (rI CDiv fun i j => .int (i / j)) gFdiv := by
  intro Hs H x y z u v Q s rx ry e q
  cases rx with
  | int i =>
    cases ry with
    | int j =>
      obtain ⟨hc, rfl⟩ := ite_some (show (if 0 < j ∧ j < 1073741824 then some (D.int (i / j)) else none) = some z from e)
      exact ⟨i, j, rfl, rfl, hc, q _ H Hs (Grow.refl s) (.int _)⟩
    | _ => cases e
  | _ => cases e
theorem a_cmp {p : Int → Int → Bool} {g : D → D → Option D} (hg : ∀ x y z, g x y = some z → ∃ i j, x = .int i ∧ y = .int j ∧ z = .bl (p i j)) : Op2 K (rI0 fun i j => .bl (p i j)) g := by
  intro Hs H x y z u v Q s rx ry e q
  obtain ⟨i, j, rfl, rfl, rfl⟩ := hg x y z e
  cases rx
  cases ry
  exact ⟨i, j, rfl, rfl, q _ H Hs (Grow.refl s) (.bl _)⟩
theorem a_lt : Op2 K (rI0 fun i j => .bl (decide (i < j))) gLt := a_cmp fun x y z e => by
  unfold gLt at e
  split at e
  · cases e; exact ⟨_, _, rfl, rfl, rfl⟩
  · cases e
theorem a_le : Op2 K (rI0 fun i j => .bl (decide (i ≤ j))) gLe := a_cmp fun x y z e => by
  unfold gLe at e
  split at e
  · cases e; exact ⟨_, _, rfl, rfl, rfl⟩
  · cases e
theorem a_gt : Op2 K (rI0 fun i j => .bl (decide (j < i))) gGt := a_cmp fun x y z e => by
  unfold gGt at e
  split at e
  · cases e; exact ⟨_, _, rfl, rfl, rfl⟩
  · cases e
theorem isNon_rep {H : Hp} {d : D} {v : V} (r : Rep K H d v) : decide (v = .non) = isNon d := by
  cases r <;> first | rfl | exact decide_eq_false (by intro h; cases h)
theorem a_is : Op2 K (fun x y H Q => y = .non ∧ Q (.bl (decide (x = .non))) H) gIs := by
  intro Hs H x y z u v Q s rx ry e q
  unfold gIs at e
  split at e
  · cases e
    cases ry
    refine ⟨rfl, ?_⟩
    rw [isNon_rep rx]
    exact q _ H Hs (Grow.refl s) (.bl _)
  · cases e
noncomputable def okN : Nat → D → Bool
  | 0, _ => false
  | n + 1, .non => true
  | n + 1, .int _ => true
  | n + 1, .lst xs => xs.all (okN n)
  | n + 1, .tup xs => xs.all (okN n)
  | _ + 1, _ => false
noncomputable def eqAll (e : D → D → Bool) : List D → List D → Bool
  | [], [] => true
  | x :: xs, y :: ys => e x y && eqAll e xs ys
  | _, _ => false
noncomputable def eqN : Nat → D → D → Bool
  | 0, _, _ => false
  | n + 1, .non, .non => true
  | n + 1, .int i, .int j => i == j
  | n + 1, .lst xs, .lst ys => eqAll (eqN n) xs ys
  | n + 1, .tup xs, .tup ys => eqAll (eqN n) xs ys
  | _ + 1, _, _ => false
theorem eqAll_eq {e : D → D → Bool} : ∀ {xs ys : List D}, (∀ x ∈ xs, ∀ y ∈ ys, (e x y = true ↔ x = y)) → (eqAll e xs ys = true ↔ xs = ys)
  | [], [], _ => by simp [eqAll]
  | [], _ :: _, _ => by simp [eqAll]
  | _ :: _, [], _ => by simp [eqAll]
  | x :: xs, y :: ys, h => by
    have h1 := h x List.mem_cons_self y List.mem_cons_self
    have h2 := eqAll_eq (xs := xs) (ys := ys) fun a ha b hb => h a (List.mem_cons_of_mem _ ha) b (List.mem_cons_of_mem _ hb)
    unfold eqAll
    rw [Bool.and_eq_true, h1, h2, List.cons.injEq]
theorem eqN_eq : ∀ {n : Nat} {x y : D}, okN n x = true → okN n y = true → (eqN n x y = true ↔ x = y)
  | 0, _, _, h, _ => by cases h
  | n + 1, x, y, hx, hy => by
    cases x <;> cases y <;> first | (simp [okN] at hx; done) | (simp [okN] at hy; done) | (simp [eqN]; done) | skip
    · rename_i xs ys
      have hx' : ∀ a ∈ xs, okN n a = true := List.all_eq_true.mp hx
      have hy' : ∀ a ∈ ys, okN n a = true := List.all_eq_true.mp hy
      show eqAll (eqN n) xs ys = true ↔ _
      rw [eqAll_eq fun a ha b hb => eqN_eq (hx' a ha) (hy' b hb), D.lst.injEq]
    · rename_i xs ys
      have hx' : ∀ a ∈ xs, okN n a = true := List.all_eq_true.mp hx
      have hy' : ∀ a ∈ ys, okN n a = true := List.all_eq_true.mp hy
      show eqAll (eqN n) xs ys = true ↔ _
      rw [eqAll_eq fun a ha b hb => eqN_eq (hx' a ha) (hy' b hb), D.tup.injEq]
theorem eqAll_range {e : D → D → Bool} : ∀ {xs ys : List D}, xs.length = ys.length → eqAll e xs ys = (List.range xs.length).all fun i => match xs[i]?, ys[i]? with
    | some x, some y => e x y
    | _, _ => false
  | [], [], _ => rfl
  | [], _ :: _, h => by simp at h
  | _ :: _, [], h => by simp at h
  | x :: xs, y :: ys, h => by
    have ih := eqAll_range (e := e) (xs := xs) (ys := ys) (by simpa using h)
    unfold eqAll
    rw [ih, List.length_cons, List.range_succ_eq_map, List.all_cons, List.all_map]
    rfl
theorem eqAll_len {e : D → D → Bool} : ∀ {xs ys : List D}, xs.length ≠ ys.length → eqAll e xs ys = false
  | [], [], h => absurd rfl h
  | [], _ :: _, _ => rfl
  | _ :: _, [], _ => rfl
  | x :: xs, y :: ys, h => by
    unfold eqAll
    rw [eqAll_len (by simpa using h), Bool.and_false]
theorem Reps.inj {H : Hp} {n : Nat} (ih : ∀ {d e : D} {v : V}, okN n d = true → okN n e = true → Rep K H d v → Rep K H e v → d = e) : ∀ {ds es : List D} {vs : List V}, (∀ d ∈ ds, okN n d = true) → (∀ d ∈ es, okN n d = true) → Reps K H ds vs → Reps K H es vs → ds = es
  | _, _, _, _, _, .nil, .nil => rfl
  | _, _, _, h1, h2, .cons r rs, .cons q qs => by
    rw [ih (h1 _ List.mem_cons_self) (h2 _ List.mem_cons_self) r q, Reps.inj ih (fun d hd => h1 d (List.mem_cons_of_mem _ hd)) (fun d hd => h2 d (List.mem_cons_of_mem _ hd)) rs qs]
theorem Rep.inj {H : Hp} : ∀ (n : Nat) {d e : D} {v : V}, okN n d = true → okN n e = true → Rep K H d v → Rep K H e v → d = e
  | 0, _, _, _, h, _, _, _ => by cases h
  | n + 1, d, e, v, h1, h2, r, q => by
    cases r with
    | non => cases q; rfl
    | int i => cases q; rfl
    | bl b => cases h1
    | str b => cases h1
    | ins a b c => cases h1
    | scr a => cases h1
    | exc _ => cases h1
    | dK _ _ _ => cases h1
    | dT _ _ _ => cases h1
    | fn _ => cases h1
    | lst a r =>
      cases q with
      | lst b q => rw [a] at b; cases b; rw [Reps.inj (Rep.inj n) (List.all_eq_true.mp h1) (List.all_eq_true.mp h2) r q]
      | tup b q => rw [a] at b; cases b
      | ins b _ _ => cases h2
      | scr b => cases h2
      | exc _ => cases h2
      | dK _ _ _ => cases h2
      | dT _ _ _ => cases h2
      | fn _ => cases h2
    | tup a r =>
      cases q with
      | tup b q => rw [a] at b; cases b; rw [Reps.inj (Rep.inj n) (List.all_eq_true.mp h1) (List.all_eq_true.mp h2) r q]
      | lst b q => rw [a] at b; cases b
      | ins b _ _ => cases h2
      | scr b => cases h2
      | exc _ => cases h2
      | dK _ _ _ => cases h2
      | dT _ _ _ => cases h2
      | fn _ => cases h2
open SeqAt in
theorem eqAtN {P : Program} {w : World} {Hs H : Hp} {s : Shared} (hok : HOk P w H s.heap) (sm : Same Hs H) : ∀ (n : Nat) (A : Around) {d e : D} {u v : V} {x y : Value}, A.units + n < cLine → okN n d = true → okN n e = true → Rep K Hs d u → RelV u x → Rep K Hs e v → RelV v y →
    EqAt A s x y (eqN n d e)
  | 0, _, _, _, _, _, _, _, _, h, _, _, _, _, _ => by cases h
  | n + 1, A, d, e, u, v, x, y, hu, h1, h2, r, rx, q, ry => by
    have hu0 : A.units < cLine := by lia
    have hu1 : A.in1.units + n < cLine := by show A.units + 1 + n < cLine; lia
    have lists : ∀ {a b : Addr} {xs ys : List V} {ds es : List D} {its its2 : List Value}, (∀ d ∈ ds, okN n d = true) → (∀ d ∈ es, okN n d = true) → Reps K Hs ds xs → Reps K Hs es ys → Vals xs its → Vals ys its2 →
        ∀ j (h1 : j < its.toArray.size) (h2 : j < its2.toArray.size), EqAt A.in1 s its.toArray[j] its2.toArray[j] (match ds[j]?, es[j]? with
          | some x, some y => eqN n x y
          | _, _ => false) := fun {a b xs ys ds es its its2} k1 k2 r q rv qv j j1 j2 => by
      have l1 := r.length
      have l2 := q.length
      have l3 := rv.length
      have l4 := qv.length
      have j1' : j < its.length := by simpa using j1
      have j2' : j < its2.length := by simpa using j2
      have e1 : ds[j]? = some ds[j] := List.getElem?_eq_getElem (by lia)
      have e2 : es[j]? = some es[j] := List.getElem?_eq_getElem (by lia)
      obtain ⟨v1, g1, r1⟩ := r.get e1
      obtain ⟨v2, g2, r2⟩ := q.get e2
      obtain ⟨u1, f1, w1⟩ := rv.get g1
      obtain ⟨u2, f2, w2⟩ := qv.get g2
      have z1 : its.toArray[j] = u1 := by
        rw [List.getElem?_eq_getElem j1'] at f1
        simpa using Option.some.inj f1
      have z2 : its2.toArray[j] = u2 := by
        rw [List.getElem?_eq_getElem j2'] at f2
        simpa using Option.some.inj f2
      rw [z1, z2, e1, e2]
      exact eqAtN hok sm n A.in1 hu1 (k1 _ (List.getElem_mem _)) (k2 _ (List.getElem_mem _)) r1 w1 r2 w2
    cases r with
    | bl b => cases h1
    | str b => cases h1
    | ins a b c => cases h1
    | scr a => cases h1
    | exc _ => cases h1
    | dK _ _ _ => cases h1
    | dT _ _ _ => cases h1
    | fn _ => cases h1
    | non =>
      cases rx
      cases q with
      | non => cases ry; exact EqAt.same _
      | int j => obtain ⟨t, rfl⟩ := ry; exact EqAt.none_int j t
      | @lst a xs ds h r => cases ry; obtain ⟨_, its, n', rv, e⟩ := hok a _ (sm _ _ h); exact EqAt.none_list ⟨_, e, rfl, _, rfl⟩ hu0
      | @tup a xs ds h r => cases ry; obtain ⟨_, its, rv, e⟩ := hok a _ (sm _ _ h); exact EqAt.none_tuple e hu0
      | bl b => cases h2
      | str b => cases h2
      | ins a b c => cases h2
      | scr a => cases h2
      | exc _ => cases h2
      | dK _ _ _ => cases h2
      | dT _ _ _ => cases h2
      | fn _ => cases h2
    | int i =>
      obtain ⟨t, rfl⟩ := rx
      cases q with
      | non => cases ry; exact EqAt.int_none i t
      | int j => obtain ⟨t', rfl⟩ := ry; exact EqAt.int_int i t j t'
      | @lst a xs ds h r => cases ry; obtain ⟨_, its, n', rv, e⟩ := hok a _ (sm _ _ h); exact EqAt.int_list i t ⟨_, e, rfl, _, rfl⟩ hu0
      | @tup a xs ds h r => cases ry; obtain ⟨_, its, rv, e⟩ := hok a _ (sm _ _ h); exact EqAt.int_tuple i t e hu0
      | bl b => cases h2
      | str b => cases h2
      | ins a b c => cases h2
      | scr a => cases h2
      | exc _ => cases h2
      | dK _ _ _ => cases h2
      | dT _ _ _ => cases h2
      | fn _ => cases h2
    | @lst a xs ds h r =>
      cases rx
      obtain ⟨_, its, n1, rv, e1⟩ := hok a _ (sm _ _ h)
      have il : s.heap.IsList a its.toArray := ⟨_, e1, rfl, _, rfl⟩
      cases q with
      | non => cases ry; exact EqAt.list_none il hu0
      | int j => obtain ⟨t', rfl⟩ := ry; exact EqAt.list_int j t' il hu0
      | @tup b ys es h' q => cases ry; obtain ⟨_, its2, qv, e2⟩ := hok b _ (sm _ _ h'); exact EqAt.list_tuple il e2 hu0
      | @lst b ys es h' q =>
        cases ry
        by_cases hab : a = b
        · subst hab
          have hd : D.lst ds = D.lst es := Rep.inj (n + 1) h1 h2 (.lst h r) (.lst h' q)
          rw [(eqN_eq h1 h2).mpr hd]
          exact EqAt.same _
        · obtain ⟨_, its2, n2, qv, e2⟩ := hok b _ (sm _ _ h')
          have il2 : s.heap.IsList b its2.toArray := ⟨_, e2, rfl, _, rfl⟩
          have l1 := r.length
          have l2 := q.length
          have l3 := rv.length
          have l4 := qv.length
          refine EqAt.of_refs hab ?_
          by_cases hl : ds.length = es.length
          · have := RcAt.lists (A := A) il il2 (by simp only [List.size_toArray]; lia) hu0 (lists (a := a) (b := b) (List.all_eq_true.mp h1) (List.all_eq_true.mp h2) r q rv qv)
            show RcAt A s _ _ (eqAll (eqN n) ds es)
            rw [eqAll_range hl]
            have ez : its.toArray.size = ds.length := by simp only [List.size_toArray]; lia
            rw [ez] at this
            exact this
          · show RcAt A s _ _ (eqAll (eqN n) ds es)
            rw [eqAll_len hl]
            exact RcAt.lists_lengths il il2 (by simp only [List.size_toArray]; simp; lia) hu0
      | bl b => cases h2
      | str b => cases h2
      | ins a b c => cases h2
      | scr a => cases h2
      | exc _ => cases h2
      | dK _ _ _ => cases h2
      | dT _ _ _ => cases h2
      | fn _ => cases h2
    | @tup a xs ds h r =>
      cases rx
      obtain ⟨_, its, rv, e1⟩ := hok a _ (sm _ _ h)
      cases q with
      | non => cases ry; exact EqAt.tuple_none e1 hu0
      | int j => obtain ⟨t', rfl⟩ := ry; exact EqAt.tuple_int j t' e1 hu0
      | @lst b ys es h' q => cases ry; obtain ⟨_, its2, n2, qv, e2⟩ := hok b _ (sm _ _ h'); exact EqAt.tuple_list e1 ⟨_, e2, rfl, _, rfl⟩ hu0
      | @tup b ys es h' q =>
        cases ry
        by_cases hab : a = b
        · subst hab
          have hd : D.tup ds = D.tup es := Rep.inj (n + 1) h1 h2 (.tup h r) (.tup h' q)
          rw [(eqN_eq h1 h2).mpr hd]
          exact EqAt.same _
        · obtain ⟨_, its2, qv, e2⟩ := hok b _ (sm _ _ h')
          have l1 := r.length
          have l2 := q.length
          have l3 := rv.length
          have l4 := qv.length
          refine EqAt.of_refs hab ?_
          have := RcAt.tuples (A := A) e1 e2 hu0 (lists (a := a) (b := b) (List.all_eq_true.mp h1) (List.all_eq_true.mp h2) r q rv qv)
          show RcAt A s _ _ (eqAll (eqN n) ds es)
          by_cases hl : ds.length = es.length
          · rw [eqAll_range hl]
            have ez : min its.toArray.size its2.toArray.size = ds.length := by simp only [List.size_toArray]; lia
            have ez2 : (its.toArray.size == its2.toArray.size) = true := by simp only [List.size_toArray]; simp; lia
            rw [ez, ez2, Bool.and_true] at this
            exact this
          · rw [eqAll_len hl]
            have ez2 : (its.toArray.size == its2.toArray.size) = false := by simp only [List.size_toArray]; simp; lia
            rw [ez2, Bool.and_false] at this
            exact this
      | bl b => cases h2
      | str b => cases h2
      | ins a b c => cases h2
      | scr a => cases h2
      | exc _ => cases h2
      | dK _ _ _ => cases h2
      | dT _ _ _ => cases h2
      | fn _ => cases h2
end
end DL
set_option maxHeartbeats 4000000
namespace DL
open PySem PySem.Spec L2
section
variable {X : Cx} {K : PySem.W.Frag}
open SeqAt in
theorem els {P : Program} {w : World} {Hs H : Hp} {s : Shared} (hok : HOk P w H s.heap) (sm : Same Hs H) {n : Nat} {A : Around} (hu : A.units + n < cLine) {xs ys : List V} {ds es : List D} {its its2 : List Value} (k1 : ∀ d ∈ ds, okN n d = true) (k2 : ∀ d ∈ es, okN n d = true)
    (r : Reps K Hs ds xs) (q : Reps K Hs es ys) (rv : Vals xs its) (qv : Vals ys its2) : ∀ j (h1 : j < its.toArray.size) (h2 : j < its2.toArray.size), EqAt A s its.toArray[j] its2.toArray[j] (match ds[j]?, es[j]? with
          | some x, some y => eqN n x y
          | _, _ => false) := fun j j1 j2 => by
  have l1 := r.length
  have l2 := q.length
  have l3 := rv.length
  have l4 := qv.length
  have j1' : j < its.length := by simpa using j1
  have j2' : j < its2.length := by simpa using j2
  have e1 : ds[j]? = some ds[j] := List.getElem?_eq_getElem (by lia)
  have e2 : es[j]? = some es[j] := List.getElem?_eq_getElem (by lia)
  obtain ⟨v1, g1, r1⟩ := r.get e1
  obtain ⟨v2, g2, r2⟩ := q.get e2
  obtain ⟨u1, f1, w1⟩ := rv.get g1
  obtain ⟨u2, f2, w2⟩ := qv.get g2
  have z1 : its.toArray[j] = u1 := by
    rw [List.getElem?_eq_getElem j1'] at f1
    simpa using Option.some.inj f1
  have z2 : its2.toArray[j] = u2 := by
    rw [List.getElem?_eq_getElem j2'] at f2
    simpa using Option.some.inj f2
  rw [z1, z2, e1, e2]
  exact eqAtN hok sm n A hu (k1 _ (List.getElem_mem _)) (k2 _ (List.getElem_mem _)) r1 w1 r2 w2
noncomputable def eqTop : D → D → Option Bool
  | .int i, .int j => some (i == j)
  | .lst xs, .lst ys => if okN 8 (.lst xs) && okN 8 (.lst ys) then some (eqN 8 (.lst xs) (.lst ys)) else none
  | .tup xs, .tup ys => if okN 8 (.tup xs) && okN 8 (.tup ys) then some (eqN 8 (.tup xs) (.tup ys)) else none
  | _, _ => none
noncomputable def gEq (x y : D) : Option D := (eqTop x y).map D.bl
noncomputable def gNe (x y : D) : Option D := (eqTop x y).map fun b => D.bl (!b)
noncomputable def rEqD (K : PySem.W.Frag) (neg : Bool) : R2 := fun x y H Q => ∃ Hs d e b, Same Hs H ∧ Rep K Hs d x ∧ Rep K Hs e y ∧ eqTop d e = some b ∧ Q (.bl (if neg then !b else b)) H
open SeqAt in
theorem o_eq (hu : X.A.units + 64 < cLine) : OpR X (compareOp .Eq) (rEqD X.K false) := by
  intro pins s σ H x y v u Q I rx ry h
  obtain ⟨Hs, d, e, b, sm, rd, re, eb, q⟩ := h
  have fin : Q (.bl b) H := q
  have hu0 : X.A.units < cLine := by lia
  have hu1 : X.A.in1.units + 7 < cLine := by show X.A.units + 1 + 7 < cLine; lia
  cases rd with
  | int i =>
    cases re with
    | int j =>
      cases eb
      obtain ⟨t, rfl⟩ := rx
      obtain ⟨t', rfl⟩ := ry
      exact PyProof.Rows.eq_int ⟨.bl _, H, I, rfl, fin⟩
    | _ => cases eb
  | @lst a xs ds h1 r1 =>
    cases re with
    | @lst c ys es h2 r2 =>
      obtain ⟨hk, rfl⟩ := ite_some (show (if okN 8 (.lst ds) && okN 8 (.lst es) then some (eqN 8 (.lst ds) (.lst es)) else none) = some b from eb)
      obtain ⟨k1, k2⟩ := Bool.and_eq_true_iff.mp hk
      cases rx
      cases ry
      obtain ⟨_, its, n1, rv, e1⟩ := I.hok a _ (sm _ _ h1)
      obtain ⟨_, its2, n2, qv, e2⟩ := I.hok c _ (sm _ _ h2)
      have il : s.heap.IsList a its.toArray := ⟨_, e1, rfl, _, rfl⟩
      have il2 : s.heap.IsList c its2.toArray := ⟨_, e2, rfl, _, rfl⟩
      have l1 := r1.length
      have l2 := r2.length
      have l3 := rv.length
      have l4 := qv.length
      by_cases hl : ds.length = es.length
      · refine RcAt.lists il il2 (by simp only [List.size_toArray]; lia) hu0 (els I.hok sm hu1 (List.all_eq_true.mp k1) (List.all_eq_true.mp k2) r1 r2 rv qv) X.prog X.w _ _ ?_
        refine ⟨.bl _, H, I, ?_, fin⟩
        show Value.bool _ = Value.bool (eqAll (eqN 7) ds es)
        rw [eqAll_range hl]
        have ez : its.toArray.size = ds.length := by simp only [List.size_toArray]; lia
        rw [ez]
        all_goals rfl
      · refine RcAt.lists_lengths il il2 (by simp only [List.size_toArray]; simp; lia) hu0 X.prog X.w _ _ ?_
        refine ⟨.bl _, H, I, ?_, fin⟩
        show Value.bool _ = Value.bool (eqAll (eqN 7) ds es)
        rw [eqAll_len hl]
    | _ => cases eb
  | @tup a xs ds h1 r1 =>
    cases re with
    | @tup c ys es h2 r2 =>
      obtain ⟨hk, rfl⟩ := ite_some (show (if okN 8 (.tup ds) && okN 8 (.tup es) then some (eqN 8 (.tup ds) (.tup es)) else none) = some b from eb)
      obtain ⟨k1, k2⟩ := Bool.and_eq_true_iff.mp hk
      cases rx
      cases ry
      obtain ⟨_, its, rv, e1⟩ := I.hok a _ (sm _ _ h1)
      obtain ⟨_, its2, qv, e2⟩ := I.hok c _ (sm _ _ h2)
      have l1 := r1.length
      have l2 := r2.length
      have l3 := rv.length
      have l4 := qv.length
      refine RcAt.tuples e1 e2 hu0 (els I.hok sm hu1 (List.all_eq_true.mp k1) (List.all_eq_true.mp k2) r1 r2 rv qv) X.prog X.w _ _ ?_
      refine ⟨.bl _, H, I, ?_, fin⟩
      show Value.bool _ = Value.bool (eqAll (eqN 7) ds es)
      by_cases hl : ds.length = es.length
      · rw [eqAll_range hl]
        have ez : min its.toArray.size its2.toArray.size = ds.length := by simp only [List.size_toArray]; lia
        have ez2 : (its.toArray.size == its2.toArray.size) = true := by simp only [List.size_toArray]; simp; lia
        rw [ez, ez2, Bool.and_true]
        all_goals rfl
      · rw [eqAll_len hl]
        have ez2 : (its.toArray.size == its2.toArray.size) = false := by simp only [List.size_toArray]; simp; lia
        rw [ez2, Bool.and_false]
    | _ => cases eb
  | _ => cases eb
open SeqAt in
theorem o_ne (hu : X.A.units + 64 < cLine) : OpR X (compareOp .NotEq) (rEqD X.K true) := by
  intro pins s σ H x y v u Q I rx ry h
  obtain ⟨Hs, d, e, b, sm, rd, re, eb, q⟩ := h
  have fin : Q (.bl (!b)) H := q
  have hu0 : X.A.units < cLine := by lia
  have hu1 : X.A.in1.units + 7 < cLine := by show X.A.units + 1 + 7 < cLine; lia
  cases rd with
  | int i =>
    cases re with
    | int j =>
      cases eb
      obtain ⟨t, rfl⟩ := rx
      obtain ⟨t', rfl⟩ := ry
      exact PyProof.Rows.ne_int ⟨.bl _, H, I, rfl, fin⟩
    | _ => cases eb
  | @lst a xs ds h1 r1 =>
    cases re with
    | @lst c ys es h2 r2 =>
      obtain ⟨hk, rfl⟩ := ite_some (show (if okN 8 (.lst ds) && okN 8 (.lst es) then some (eqN 8 (.lst ds) (.lst es)) else none) = some b from eb)
      obtain ⟨k1, k2⟩ := Bool.and_eq_true_iff.mp hk
      cases rx
      cases ry
      obtain ⟨_, its, n1, rv, e1⟩ := I.hok a _ (sm _ _ h1)
      obtain ⟨_, its2, n2, qv, e2⟩ := I.hok c _ (sm _ _ h2)
      have il : s.heap.IsList a its.toArray := ⟨_, e1, rfl, _, rfl⟩
      have il2 : s.heap.IsList c its2.toArray := ⟨_, e2, rfl, _, rfl⟩
      have l1 := r1.length
      have l2 := r2.length
      have l3 := rv.length
      have l4 := qv.length
      by_cases hl : ds.length = es.length
      · refine RcNeAt.lists il il2 (by simp only [List.size_toArray]; lia) hu0 (els I.hok sm hu1 (List.all_eq_true.mp k1) (List.all_eq_true.mp k2) r1 r2 rv qv) X.prog X.w _ _ ?_
        refine ⟨.bl _, H, I, ?_, fin⟩
        show Value.bool _ = Value.bool (!eqAll (eqN 7) ds es)
        rw [eqAll_range hl]
        have ez : its.toArray.size = ds.length := by simp only [List.size_toArray]; lia
        rw [ez]
        all_goals rfl
      · refine RcNeAt.lists_lengths il il2 (by simp only [List.size_toArray]; simp; lia) hu0 X.prog X.w _ _ ?_
        refine ⟨.bl _, H, I, ?_, fin⟩
        show Value.bool _ = Value.bool (!eqAll (eqN 7) ds es)
        rw [eqAll_len hl]
        rfl
    | _ => cases eb
  | @tup a xs ds h1 r1 =>
    cases re with
    | @tup c ys es h2 r2 =>
      obtain ⟨hk, rfl⟩ := ite_some (show (if okN 8 (.tup ds) && okN 8 (.tup es) then some (eqN 8 (.tup ds) (.tup es)) else none) = some b from eb)
      obtain ⟨k1, k2⟩ := Bool.and_eq_true_iff.mp hk
      cases rx
      cases ry
      obtain ⟨_, its, rv, e1⟩ := I.hok a _ (sm _ _ h1)
      obtain ⟨_, its2, qv, e2⟩ := I.hok c _ (sm _ _ h2)
      have l1 := r1.length
      have l2 := r2.length
      have l3 := rv.length
      have l4 := qv.length
      refine RcNeAt.tuples e1 e2 hu0 (els I.hok sm hu1 (List.all_eq_true.mp k1) (List.all_eq_true.mp k2) r1 r2 rv qv) X.prog X.w _ _ ?_
      refine ⟨.bl _, H, I, ?_, fin⟩
      show Value.bool _ = Value.bool (!eqAll (eqN 7) ds es)
      by_cases hl : ds.length = es.length
      · rw [eqAll_range hl]
        have ez : min its.toArray.size its2.toArray.size = ds.length := by simp only [List.size_toArray]; lia
        have ez2 : (its.toArray.size == its2.toArray.size) = true := by simp only [List.size_toArray]; simp; lia
        rw [ez, ez2, Bool.and_true]
        all_goals rfl
      · rw [eqAll_len hl]
        have ez2 : (its.toArray.size == its2.toArray.size) = false := by simp only [List.size_toArray]; simp; lia
        rw [ez2, Bool.and_false]
    | _ => cases eb
  | _ => cases eb
theorem a_eq : Op2 K (rEqD K false) gEq := by
  intro Hs H x y z u v Q s rx ry e q
  unfold gEq at e
  cases h : eqTop x y with
  | none => rw [h] at e; cases e
  | some b => rw [h] at e; cases e; exact ⟨Hs, x, y, b, s, rx, ry, h, q _ H Hs (Grow.refl s) (.bl _)⟩
theorem a_ne : Op2 K (rEqD K true) gNe := by
  intro Hs H x y z u v Q s rx ry e q
  unfold gNe at e
  cases h : eqTop x y with
  | none => rw [h] at e; cases e
  | some b => rw [h] at e; cases e; exact ⟨Hs, x, y, b, s, rx, ry, h, q _ H Hs (Grow.refl s) (.bl _)⟩
noncomputable def gLen : List D → Option D
  | [.lst xs] => some (.int xs.length)
  | [.tup xs] => some (.int xs.length)
  | [.scr ns] => some (.int ns.length)
  | _ => none
theorem a_len : OpN K (fun xs H Q => ∃ p ys, xs = [.ref p] ∧ (SqL K H p ys ∨ SqT K H p ys) ∧ Q (.int ys.length) H) gLen := by
  intro Hs H xs z us Q s r e q
  unfold gLen at e
  split at e
  · cases e
    cases r with
    | cons r rs =>
    cases rs
    cases r with
    | @lst a vs ds h r =>
      refine ⟨a, vs, rfl, .inl (SqL.of (s _ _ h)), ?_⟩
      rw [← r.length]
      exact q _ H Hs (Grow.refl s) (.int _)
  · cases e
    cases r with
    | cons r rs =>
    cases rs
    cases r with
    | @tup a vs ds h r =>
      refine ⟨a, vs, rfl, .inr (SqT.of (s _ _ h)), ?_⟩
      rw [← r.length]
      exact q _ H Hs (Grow.refl s) (.int _)
  · cases e
    cases r with
    | cons r rs =>
    cases rs
    cases r with
    | @scr a ns h =>
      refine ⟨a, _, rfl, .inl (s.seq h), ?_⟩
      rw [List.length_map]
      exact q _ H Hs (Grow.refl s) (.int _)
  · cases e
noncomputable def asB : D → Option Bool
  | .bl b => some b
  | _ => none
theorem bools_rep {H : Hp} : ∀ {ds : List D} {vs : List V} {bs : List Bool}, Reps K H ds vs → ds.mapM asB = some bs → vs = bs.map V.bl
  | _, _, bs, .nil, e => by cases e; rfl
  | d :: ds, _, bs, .cons r rs, e => by
    rw [List.mapM_cons] at e
    cases r with
    | bl b =>
      cases q : ds.mapM asB with
      | none => rw [q] at e; cases e
      | some cs =>
        rw [q] at e
        have e' : some (b :: cs) = some bs := e
        cases e'
        rw [bools_rep rs q]
        rfl
    | _ => cases e
noncomputable def gAll : List D → Option D
  | [.lst xs] => (xs.mapM asB).map fun bs => .bl (bs.all id)
  | _ => none
theorem a_all : OpN K (fun xs H Q => ∃ (a : Addr) (bs : List Bool), xs = [.ref a] ∧ SqL K H a (bs.map V.bl) ∧ Q (.bl (bs.all id)) H) gAll := by
  intro Hs H xs z us Q s r e q
  unfold gAll at e
  split at e
  · rename_i ds
    cases r with
    | cons r rs =>
    cases rs
    cases r with
    | @lst a vs ds h r =>
      have e' : (ds.mapM asB).map (fun bs => D.bl (bs.all id)) = some z := e
      cases hb : ds.mapM asB with
      | none => rw [hb] at e'; cases e'
      | some bs =>
        rw [hb] at e'
        cases e'
        have := bools_rep r hb
        subst this
        exact ⟨a, bs, rfl, SqL.of (s _ _ h), q _ H Hs (Grow.refl s) (.bl _)⟩
  · cases e
end
end DL
set_option maxHeartbeats 4000000
namespace DL
open PySem PySem.Spec L2
section
variable {X : Cx} {K : PySem.W.Frag} {a b e : Expr} {f h : Fe} {pos p : Pos} {elts : List Expr} {kt : Nat} {tp : Pos}
noncomputable def tyD : D → Option String
  | .non => some "NoneType"
  | .bl _ => some "bool"
  | .int _ => some "int"
  | .str _ => some "str"
  | .lst _ => some "list"
  | .tup _ => some "tuple"
  | _ => none
noncomputable def subT (t T : String) : Bool := t == T || (t == "bool" && T == "int")
noncomputable def gInst (T : String) (d : D) : Option D := (tyD d).map fun t => .bl (subT t T)
structure KitOk (K : PySem.W.Frag) (T : String) : Prop where
  ok : ∀ t, (t = "NoneType" ∨ t = "bool" ∨ t = "int" ∨ t = "str" ∨ t = "list" ∨ t = "tuple") → PySem.W.kitOne K (.type t) (.type T) = some (subT t T)
theorem ty_rep {Hs H : Hp} {d : D} {v : V} {t : String} (s : Same Hs H) (r : Rep K Hs d v) (e : tyD d = some t) : TyOf K H v (.type t) ∧ (t = "NoneType" ∨ t = "bool" ∨ t = "int" ∨ t = "str" ∨ t = "list" ∨ t = "tuple") := by
  cases r with
  | non => cases e; exact ⟨.non, .inl rfl⟩
  | bl b => cases e; exact ⟨.bl b, .inr (.inl rfl)⟩
  | int b => cases e; exact ⟨.int b, .inr (.inr (.inl rfl))⟩
  | str b => cases e; exact ⟨.str b, .inr (.inr (.inr (.inl rfl)))⟩
  | lst h r => cases e; exact ⟨.lst (s _ _ h), .inr (.inr (.inr (.inr (.inl rfl))))⟩
  | tup h r => cases e; exact ⟨.tup (s _ _ h), .inr (.inr (.inr (.inr (.inr rfl))))⟩
  | _ => cases e
theorem pf_inst {T : String} {x : Str} {px p2 : Pos} (hg : Gl X "isinstance") (hm : X.mg "isinstance" = none) (hgx : Gl X x) (hmx : X.mg x = none) (hv : bootBuiltins x = some (.type T)) (kk : KitOk K T) (ha : PF X K a f)
    (hn : x ≠ "__name__" := by decide) (hdb : (x == ("__debug__" : Str)) = false := by decide)
    (hs : starEach [a, .Name x p2] X.env = (false, eval a X.env) :: starEach [.Name x p2] X.env := by rfl) (hs2 : starEach [.Name x p2] X.env = (false, eval (.Name x p2) X.env) :: starEach [] X.env := by rfl) (hpl : (backTo pos (starEach [.Name x p2] X.env)).any (·.1) = false := by rfl) :
    PF X K (.Call (.Name "isinstance" px) [a, .Name x p2] [] pos) (f1 (gInst T) f) := fun hK => by
  subst hK
  have cr : CallR X (.builtin "isinstance") (fun xs H Q => ∃ y t b, xs = [y, .ty T] ∧ TyOf X.K H y t ∧ PySem.W.kitOne X.K t (.type T) = some b ∧ Q (.bl b) H) := by
    intro pins s σ H xs us Q I r h
    obtain ⟨y, t, b, rfl, ty, ek, q⟩ := h
    obtain ⟨u, w', rfl, r1, r2⟩ := vals2 r
    cases r2
    exact isinst_ok I r1 ty ek fun tk => ⟨.bl b, H, I.tok tk, rfl, q⟩
  refine PE.imp (pe_callB cr hg hm PyProof.Rows.boot_isinstance (pa_cons (ha rfl) (pa_cons (pe_bltn (v := .ty T) hgx hmx hv rfl hn hdb) pa_nil hs2) hs) (by decide) (by decide) hs hpl) fun σ H Q ⟨ρ, Hs, d, st, ef, k⟩ => ?_
  obtain ⟨y, e1, e2⟩ := bind1 ef
  refine ⟨ρ, Hs, y, st, e1, fun v H' Hs' g r => ?_⟩
  unfold gInst at e2
  cases ht : tyD y with
  | none => rw [ht] at e2; cases e2
  | some t =>
    rw [ht] at e2
    cases e2
    obtain ⟨ty, ho⟩ := ty_rep g.sub r ht
    exact ⟨v, _, _, rfl, ty, kk.ok t ho, k _ H' Hs' g (.bl _)⟩
noncomputable def fIxOwn (i : Nat) (h : Fe) : Fe := fun ρ => match ρ[i]?, h ρ with
  | some (some (.own ds)), some (.int k) => atI ds k
  | _, _ => none
theorem pf_ixOwn (i : Nat) {x : Str} {px : Pos} (hb : PF X K b h) (hN : X.N[i]? = some x := by rfl) (hv : Vis X.env.scope x := by first | exact Or.inl rfl | exact Or.inr (Or.inl rfl) | exact Or.inr (Or.inr rfl)) (hd : (x == ("__debug__" : Str)) = false := by decide)
    (hcd : (x == ("__classdict__" : Str)) = false := by decide) (hs : PlainIx b := by intro _ _; rfl) : PF X K (.Subscript (.Name x px) b pos) (fIxOwn i h) := fun hK => by
  subst hK
  refine PE.imp (pe_ix ix_list (pe_var hN hv hd hcd) (hb rfl) hs) fun σ H Q ⟨ρ, Hs, d, st, ef, k⟩ => ?_
  unfold fIxOwn at ef
  split at ef
  · rename_i ds j ho hj
    obtain ⟨a, xs, ha, hsa, hHa, r⟩ := st.ownAt ho
    refine ⟨_, ha, ρ, Hs, _, st, hj, fun v H' Hs' g rv => ?_⟩
    cases rv
    obtain ⟨w, h1, h2⟩ := atI_rep r ef
    exact ⟨a, xs, j, w, rfl, rfl, SqL.of (g.h _ _ hHa), h1, k w H' Hs' g (h2.mono g.hs)⟩
  · cases ef
noncomputable def newOnly (H Hs : Hp) : Hp := fun b => match H b with
  | none => Hs b
  | some _ => none
theorem newOnly_sub (H Hs : Hp) : Same (newOnly H Hs) Hs := fun b o e => by
  unfold newOnly at e
  split at e
  · exact e
  · cases e
theorem newOnly_mono {H H1 Hs1 Hs2 : Hp} (h : Same H H1) (s : Same Hs1 Hs2) : Same (newOnly H1 Hs1) (newOnly H Hs2) := fun b o e => by
  unfold newOnly at e ⊢
  split at e
  · rename_i q
    rw [h.free q]
    exact s b o e
  · cases e
theorem newOnly_at {H Hs : Hp} {b : Addr} (h : H b = none) : newOnly H Hs b = Hs b := by unfold newOnly; rw [h]
noncomputable def tFN (K : PySem.W.Frag) (f : Fe) : TE := fun σ H Q => ∃ ρ Hs d, StE K Hs H ρ σ ∧ f ρ = some d ∧ ∀ v H' Hs', Grow Hs H Hs' H' → Rep K (newOnly H Hs') d v → Q v H'
noncomputable def PFN (X : Cx) (K : PySem.W.Frag) (e : Expr) (f : Fe) : Prop := X.K = K → PE X e (tFN K f)
noncomputable def scalD : D → Bool
  | .non => true
  | .bl _ => true
  | .int _ => true
  | .str _ => true
  | _ => false
theorem scal_rep {H H' : Hp} {d : D} {v : V} (r : Rep K H d v) (h : scalD d = true) : Rep K H' d v := by
  cases r <;> first | (cases h; done) | constructor
theorem scals_rep {H H' : Hp} : ∀ {ds : List D} {vs : List V}, Reps K H ds vs → ds.all scalD = true → Reps K H' ds vs
  | _, _, .nil, _ => .nil
  | _, _, .cons r rs, h => by
    rw [List.all_cons, Bool.and_eq_true] at h
    exact .cons (scal_rep r h.1) (scals_rep rs h.2)
noncomputable def gListN : List D → Option D
  | [.lst xs] => if xs.all scalD then some (.lst xs) else none
  | _ => none
theorem pfn_list {es : List Expr} {as : Rho → Option (List D)} (hg : Gl X "list") (hm : X.mg "list" = none) (ha : PFA X K (e :: es) as) (he : starEach (e :: es) X.env = (false, eval e X.env) :: starEach es X.env := by rfl) (hpl : (backTo pos (starEach es X.env)).any (·.1) = false := by rfl) :
    PFN X K (.Call (.Name "list" p) (e :: es) [] pos) (fA gListN as) := fun hK => by
  subst hK
  refine PE.imp (pe_callTy call_list_of hg hm PyProof.Rows.boot_list (ha rfl) (by decide) (by decide) he hpl) fun σ H Q ⟨ρ, Hs, d, st, ef, k⟩ => ?_
  obtain ⟨ds, e1, e2⟩ := bind1 ef
  refine ⟨ρ, Hs, ds, st, e1, fun vs H' Hs' g r => ?_⟩
  unfold gListN at e2
  split at e2
  · rename_i xs
    obtain ⟨hz, rfl⟩ := ite_some e2
    cases r with
    | cons r rs =>
      cases rs
      cases r with
      | @lst a us _ h1 r1 =>
        refine ⟨a, us, rfl, .inl (SqL.of (g.sub _ _ h1)), fun l hl => ?_⟩
        have ga := Grow.alloc (o := .lst us) g.sub hl
        have hHl : H l = none := g.h.free hl
        exact k _ _ _ (g.trans ga) (.lst (by rw [newOnly_at hHl]; exact upd_same) (scals_rep r1 hz))
  · cases e2
end
section
variable {X : Cx} {K : PySem.W.Frag} {sc : Scope} {own : List Str} {fr : List (Str × Nat)} {tg elt iter : Expr} {ifs : List Expr} {fi : Fi} {ft : Ft} {t : Rho → Option Bool} {f : Fe} {pos : Pos}
theorem comp_rdN {σ : L2.St} {H : Hp} {Q : VK} {ρ : Rho} {Hs : Hp} {J : It} {ds ys : List D} (st : StE K Hs H ρ σ) (it : ItD K J Hs ds) (hz : ds.length ≤ sizeLine) (e : compD own.length ft t f ds (rhoIn own.length fr ρ) = some ys)
    (k : ∀ v H' Hs', Grow Hs H Hs' H' → Rep K (newOnly H Hs') (.lst ys) v → Q v H') : rdComp own.length fr (tFG K ft) (tFT K t) (tFN K f) σ J H Q := by
  intro l hl
  have hsl : Hs l = none := st.sub.free hl
  refine ⟨fun i m vs σ' H' => ∃ ρ' Hs' zs rest, StE K Hs' H' ρ' σ' ∧ (∀ (j : Nat) (es : List D) (a : Addr), ρ'[j]? = some (some (.own es)) → σ'[j]? = some (some (.ref a)) → a ≠ l) ∧ Grow Hs H Hs' H' ∧ Hs' l = none ∧ H' l = some (.lst vs) ∧ Reps K (newOnly H Hs') zs vs ∧ m = ds.length - i ∧ i ≤ ds.length ∧ zs.length ≤ i ∧ compD own.length ft t f (ds.drop i) ρ' = some rest ∧ zs ++ rest = ys, ?_, ?_⟩
  · have sub : Same Hs (upd H l (.lst [])) := sm_updR st.sub hsl
    have g0 : Grow Hs H Hs (upd H l (.lst [])) := ⟨Same.refl _, sm_upd hl, sub, fun b h e => absurd e h⟩
    have ap0 : ∀ (j : Nat) (es : List D) (a : Addr), (rhoIn own.length fr ρ)[j]? = some (some (.own es)) → (compSt own.length fr σ)[j]? = some (some (.ref a)) → a ≠ l := fun j es a h1 h2 z => by
      obtain ⟨a', xs, q1, q2, q3, q4⟩ := (st.inn own.length fr).ownAt h1
      rw [h2] at q1
      cases q1
      rw [z, hl] at q3
      cases q3
    exact ⟨_, _, Hs, [], ys, (st.inn _ _).grow g0, ap0, g0, hsl, upd_same, .nil, rfl, Nat.zero_le _, Nat.le_refl _, e, rfl⟩
  · rintro i m vs σ1 H1 ⟨ρ1, Hs1, zs, rest, s1, ap1, g1, n1, h1, r1, rfl, hi, hzs, e1, ee⟩
    obtain ⟨go, stop⟩ := it i Hs1 H1 g1.hs s1.sub
    by_cases hlt : i < ds.length
    · right
      have hd : ds[i]? = some ds[i] := by simp [hlt]
      obtain ⟨go1, yl⟩ := go _ hd
      refine ⟨go1, fun x H2 y => ?_⟩
      obtain ⟨Hs2, g2, r2⟩ := yl x H2 y
      rw [List.drop_eq_getElem_cons hlt] at e1
      obtain ⟨ρ3, e3, e4⟩ := bind1 e1
      obtain ⟨b, e5, e6⟩ := bind1 e4
      have keepN : ∀ {Ha Hsa Hb Hsb : Hp}, Grow Hsa Ha Hsb Hb → Hsa l = none → (∃ o, Ha l = some o) → Hsb l = none := fun {Ha Hsa Hb Hsb} g hn ⟨o, ho⟩ => by
        cases q : Hsb l with
        | none => rfl
        | some u =>
          have := g.new l (by rw [q]; simp) hn
          rw [ho] at this; cases this
      have n2 := keepN g2 n1 ⟨_, h1⟩
      refine ⟨ρ1, Hs2, _, ρ3, s1.grow g2, r2, e3, fun σ4 H4 Hs4 g4 s4 _ ok4 => ?_⟩
      have ap4 : ∀ (j : Nat) (es : List D) (a : Addr), (reset own.length ρ3)[j]? = some (some (.own es)) → σ4[j]? = some (some (.ref a)) → a ≠ l := fun j es a q1 q2 => by
        obtain ⟨q3, q4⟩ := ok4 j es (reset_get q1)
        exact ap1 j es a q3 (q4 ▸ q2)
      have h2 := g2.h _ _ h1
      have n4 := keepN g4 n2 ⟨_, h2⟩
      have h4 := g4.h _ _ h2
      refine ⟨ρ3, Hs4, b, s4, e5, fun H5 Hs5 g5 => ?_⟩
      have n5 := keepN g5 n4 ⟨_, h4⟩
      have h5 := g5.h _ _ h4
      have gg := ((g1.trans g2).trans g4).trans g5
      have r5 := r1.mono (newOnly_mono (Same.refl H) (((g2.trans g4).trans g5).hs))
      cases b with
      | false =>
        rw [if_neg Bool.false_ne_true] at e6
        refine iteF ?_
        exact ⟨ds.length - (i + 1), by lia, _, Hs5, zs, rest, (s4.grow g5).reset _, ap4, gg, n5, h5, r5, rfl, hlt, Nat.le_succ_of_le hzs, e6, ee⟩
      | true =>
        rw [if_pos rfl] at e6
        refine iteT ?_
        obtain ⟨y', e7, e8⟩ := bind1 e6
        obtain ⟨ys', e9, e10⟩ := bind1 e8
        cases e10
        refine ⟨ρ3, Hs5, y', s4.grow g5, e7, fun v H6 Hs6 g6 r6 => ?_⟩
        have n6 := keepN g6 n5 ⟨_, h5⟩
        have h6 := g6.h _ _ h5
        have lenv := r1.length
        refine ⟨h6, by lia, ds.length - (i + 1), by lia, _, Hs6, zs ++ [y'], ys', ?_, ap4, ?_, n6, upd_same, (r5.mono (newOnly_mono (Same.refl H) g6.hs)).append (.cons (r6.mono (newOnly_mono gg.h (Same.refl _))) .nil), rfl, hlt, by rw [List.length_append]; exact Nat.succ_le_succ hzs, e9, by rw [List.append_assoc]; exact ee⟩
        · have s6 := ((s4.grow g5).grow g6).reset own.length
          refine ⟨sm_updR s6.sub n6, s6.len, fun j sl ej => ?_⟩
          obtain ⟨w, q1, q2⟩ := s6.slot j sl ej
          refine ⟨w, q1, ?_⟩
          cases sl with
          | val d => exact q2
          | own es =>
            obtain ⟨a, us, rfl, k1, k2, k3⟩ := q2
            exact ⟨a, us, rfl, k1, by rw [upd_ne (ap4 j es a ej q1)]; exact k2, k3⟩
        · have g7 := gg.trans g6
          have hH : ∀ b o, H b = some o → b ≠ l := fun b o ho z => by rw [z, hl] at ho; cases ho
          exact ⟨g7.hs, fun b o ho => by rw [upd_ne (hH b o ho)]; exact g7.h b o ho, sm_updR g7.sub n6, g7.new⟩
    · left
      have hi' : i = ds.length := by lia
      subst hi'
      rw [List.drop_length] at e1
      cases e1
      rw [List.append_nil] at ee
      subst ee
      refine ⟨stop (Nat.le_refl _), ?_⟩
      have hs : Same Hs1 (upd Hs1 l (.lst vs)) := sm_upd n1
      refine k _ H1 (upd Hs1 l (.lst vs)) ⟨g1.hs.trans hs, g1.h, ?_, ?_⟩ (.lst (by rw [newOnly_at hl]; exact upd_same) (r1.mono (newOnly_mono (Same.refl _) hs)))
      · intro b o ho
        by_cases hb : b = l
        · subst hb; rw [upd_same] at ho; cases ho; exact h1
        · rw [upd_ne hb] at ho; exact g1.sub b o ho
      · intro b hb he
        by_cases hb2 : b = l
        · rw [hb2]; exact hl
        · rw [upd_ne hb2] at hb; exact g1.new b hb he
theorem pfn_comp (hc : X.calm = true) (S : CScope X sc own fr) (hi : PFI X K tg iter fi) (hg : ∀ s H pins fp, PFG (compCx X sc own fr s H pins fp) K tg ft) (ht : ∀ s H pins fp, PFIf (compCx X sc own fr s H pins fp) K ifs t)
    (he : ∀ s H pins fp, PFN (compCx X sc own fr s H pins fp) K elt f) (hs : ∀ x, foldedSetIterable iter X.env x = pure x := by intro _; rfl) :
    PFN X K (.ListComp elt [⟨tg, iter, ifs, 0⟩] sc pos) (fComp own.length fr fi ft t f) := fun hK => by
  refine PE.imp (pe_comp hc S (hi hK) (fun s H pins fp => hg s H pins fp hK) (fun s H pins fp => ht s H pins fp hK) (fun s H pins fp => he s H pins fp hK) hs) fun σ H Q ⟨ρ, Hs, d, st, ef, k⟩ => ?_
  obtain ⟨ds, e1, e2⟩ := bind1 ef
  split at e2
  · rename_i hz
    obtain ⟨ys, e3, e4⟩ := bind1 e2
    cases e4
    exact ⟨ρ, Hs, ds, st, e1, fun J H' Hs' g it => comp_rdN (st.grow g) it hz e3 fun v H2 Hs2 g2 r => k v H2 Hs2 (g.trans g2) (r.mono (newOnly_mono g.h (Same.refl _)))⟩
  · cases e2
structure CScopeN (osc : Scope) (N : List Str) (sc : Scope) (own : List Str) (fr : List (Str × Nat)) : Prop where
  kind : sc.kind = .function
  loc : ∀ x ∈ sc.names, x.2 = .local → sc.names.lookup x.1 = some .local
  nd : (own ++ fr.map (·.1)).Nodup
  frk : ∀ p ∈ sc.names, p.2 = .free → osc.names.lookup p.1 = some .cell ∨ osc.names.lookup p.1 = some .free
  fre : ∀ p ∈ fr, (p.1, NameKind.free) ∈ sc.names ∧ N[p.2]? = some p.1
  one : (sc.names.map (·.1)).Nodup
theorem CScopeN.at {osc : Scope} {N : List Str} (S : CScopeN osc N sc own fr) (ho : X.env.scope = osc) (hN : X.N = N) : CScope X sc own fr := by
  subst ho
  subst hN
  exact ⟨S.kind, S.loc, S.nd, S.frk, S.fre, S.one⟩
end
theorem Dm.mono {P : Program} {w : World} {K : PySem.W.Frag} {mg : Str → Option Value} {base : Heap} {j k : Nat} {C : Addr} {m : Str} {ps : List Str} {F : List D → Option D} (d : Dm P w K mg base j C m ps F) (h : j ≤ k) : Dm P w K mg base k C m ps F :=
  let ⟨f, fd, h1, h3, h4⟩ := d.ex; ⟨f, fd, h1, h3, h4.mono h⟩
end DL
namespace CR
open PySem L2 DL
noncomputable def encC : Option Int → D
  | none => .non
  | some i => .int i
noncomputable def decC : D → Option (Option Int)
  | .non => some none
  | .int i => some (some i)
  | _ => none
theorem dec_enc (c : Option Int) : decC (encC c) = some c := by cases c <;> rfl
noncomputable def mapO {α β : Type} (f : α → Option β) : List α → Option (List β)
  | [] => some []
  | x :: xs => (f x).bind fun y => (mapO f xs).bind fun ys => some (y :: ys)
theorem mapO_map {α β : Type} {f : β → Option α} {g : α → β} (h : ∀ x, f (g x) = some x) : ∀ xs : List α, mapO f (xs.map g) = some xs
  | [] => rfl
  | x :: xs => by
    show (f (g x)).bind _ = _
    rw [h, mapO_map h xs]
    rfl
theorem mapO_some {α β : Type} {f : α → Option β} {g : β → α} (h : ∀ x y, f x = some y → x = g y) : ∀ {xs : List α} {ys : List β}, mapO f xs = some ys → xs = ys.map g
  | [], ys, e => by cases e; rfl
  | x :: xs, ys, e => by
    have e' : ((f x).bind fun y => (mapO f xs).bind fun ys => some (y :: ys)) = some ys := e
    obtain ⟨y, zs, e1, e2, e3⟩ := bind2 e'
    cases e3
    rw [h x y e1, mapO_some h e2]
    rfl
noncomputable def encL (cs : List (Option Int)) : D := .lst (cs.map encC)
noncomputable def decL : D → Option (List (Option Int))
  | .lst ds => mapO decC ds
  | _ => none
noncomputable def encLL (rs : List (List (Option Int))) : D := .lst (rs.map encL)
noncomputable def decLL : D → Option (List (List (Option Int)))
  | .lst ds => mapO decL ds
  | _ => none
theorem decC_enc {d : D} {c : Option Int} (h : decC d = some c) : d = encC c := by
  cases d <;> first | (cases h; done) | (cases h; rfl)
theorem dec_encL (cs : List (Option Int)) : decL (encL cs) = some cs := mapO_map dec_enc cs
theorem decL_enc {d : D} {c : List (Option Int)} (h : decL d = some c) : d = encL c := by
  cases d <;> first | (cases h; done) | skip
  unfold encL
  rw [mapO_some (fun x y => decC_enc) (show mapO decC _ = some c from h)]
theorem dec_encLL (cs : List (List (Option Int))) : decLL (encLL cs) = some cs := mapO_map dec_encL cs
theorem decLL_enc {d : D} {c : List (List (Option Int))} (h : decLL d = some c) : d = encLL c := by
  cases d <;> first | (cases h; done) | skip
  unfold encLL
  rw [mapO_some (fun x y => decL_enc) (show mapO decL _ = some c from h)]
structure Ch where
  starts : List (Option Int)
  steps : List (List (Option Int))
  signs : List (List (Option Int))
  ends : List (Option Int)
noncomputable abbrev chNs : List Str := ["starts", "steps", "signs", "ends"]
noncomputable def encCh (C : Addr) (c : Ch) : D := .ins C chNs [encL c.starts, encLL c.steps, encLL c.signs, encL c.ends]
noncomputable def decCh (C : Addr) : D → Option Ch
  | .ins C' ns [a, b, c, d] => if C' = C ∧ ns = chNs then (decL a).bind fun a => (decLL b).bind fun b => (decLL c).bind fun c => (decL d).bind fun d => some ⟨a, b, c, d⟩ else none
  | _ => none
theorem dec_encCh (C : Addr) (c : Ch) : decCh C (encCh C c) = some c := by
  show (if C = C ∧ chNs = chNs then (decL (encL c.starts)).bind fun a => (decLL (encLL c.steps)).bind fun b => (decLL (encLL c.signs)).bind fun c' => (decL (encL c.ends)).bind fun d => some (⟨a, b, c', d⟩ : Ch) else none) = some c
  rw [if_pos ⟨rfl, rfl⟩, dec_encL, dec_encLL, dec_encLL, dec_encL]
  rfl
structure Wf (c : Ch) : Prop where
  n1 : 1 ≤ c.starts.length
  n8 : c.starts.length ≤ 8
  steps : c.steps.length = c.starts.length
  signs : c.signs.length = c.starts.length
  ends : c.ends.length = c.starts.length
  rows : ∀ r ∈ c.steps, r.length = c.starts.length
  wide : ∃ w, 1 ≤ w ∧ w ≤ 8 ∧ ∀ r ∈ c.signs, r.length = w
noncomputable def wfB (c : Ch) : Bool := decide (1 ≤ c.starts.length) && decide (c.starts.length ≤ 8) && c.steps.length == c.starts.length && c.signs.length == c.starts.length && c.ends.length == c.starts.length && c.steps.all (fun r => r.length == c.starts.length) &&
  (match c.signs with
  | [] => false
  | r :: _ => decide (1 ≤ r.length) && decide (r.length ≤ 8) && c.signs.all fun q => q.length == r.length)
noncomputable def lenIs (w : Int) : D → Bool
  | .lst xs => decide ((xs.length : Int) = w)
  | _ => false
noncomputable def F_size (C : Addr) : List D → Option D
  | [a] => (decCh C a).bind fun c => some (.int c.starts.length)
  | _ => none
noncomputable def cellN (ns : List Int) (k : Int) : Int := if ns.length = 0 then 0 else ns.getD (k % ns.length).toNat 0
noncomputable def mixN (ns : List Int) (k : Int) : Int :=
  let a := (cellN ns k + 104729 * (k + 1)) % 4294967291
  let b := a * 48271 % 4294967279
  (b / 64 * 69621 + b) % 4294967231
noncomputable def F_Lcell : List D → Option D
  | [.scr ns, .int k] => some (.int (cellN ns k))
  | _ => none
noncomputable def F_Lmix : List D → Option D
  | [.scr ns, .int k] => some (.int (mixN ns k))
  | _ => none
noncomputable def isWhole : D → Bool
  | .int _ => true
  | _ => false
noncomputable def F_Lwhole : List D → Option D
  | [d] => if (tyD d).isSome then some (.bl (isWhole d)) else none
  | _ => none
end CR
namespace CR
open PySem L2 DL
noncomputable abbrev N_init : List Str := ["self", "starts", "steps", "signs", "ends"]
noncomputable def g_size (C : Addr) : Fs :=
  (gRet (fA gLen (aCons (f1 (gFld C ("starts" : Str)) (fVar 0)) aNil)))
noncomputable abbrev N_size : List Str := ["self"]
noncomputable abbrev N_check_states : List Str := ["starts", "steps", "signs", "ends", "size"]
noncomputable abbrev N_check_rows : List Str := ["rows", "width", "what", "costs"]
noncomputable abbrev N_check_signs : List Str := ["signs", "width"]
noncomputable def g_Lcell : Fs :=
  (gSeq (gIf (bTru (fVar 0)) (gRet (f2 gIx (fVar 0) (f2 gMod (fVar 1) (fA gLen (aCons (fVar 0) aNil))))) gNext) (gRet (fC (.int 0))))
noncomputable abbrev N_Lcell : List Str := ["_law_script", "_law_k"]
noncomputable def g_Lmix : Fs :=
  (gSeq (gSet 2 (f2 gMod (f2 gAdd (fA F_Lcell (aCons (fVar 0) (aCons (fVar 1) aNil))) (f2 gMul (fC (.int 104729)) (f2 gAdd (fVar 1) (fC (.int 1))))) (fC (.int 4294967291)))) (gSeq (gSet 2 (f2 gMod (f2 gMul (fVar 2) (fC (.int 48271))) (fC (.int 4294967279)))) (gRet (f2 gMod (f2 gAdd (f2 gMul (f2 gFdiv (fVar 2) (fC (.int 64))) (fC (.int 69621))) (fVar 2)) (fC (.int 4294967231))))))
noncomputable abbrev N_Lmix : List Str := ["_law_script", "_law_k", "_law_number"]
noncomputable def g_Lwhole : Fs :=
  (gRet (fAnd (f1 (gInst "int") (fVar 0)) (fNot (f1 (gInst "bool") (fVar 0)))))
noncomputable abbrev N_Lwhole : List Str := ["_law_found"]
end CR
namespace CR
open PySem L2 DL
section
variable {g h : Fs} {ρ ρ' : Rho} {d : D}
theorem gSeq_nx (e : g ρ = some (.nx ρ')) : gSeq g h ρ = h ρ' := by unfold gSeq; rw [e]; rfl
theorem gSeq_rt (e : g ρ = some (.rt d)) : gSeq g h ρ = some (.rt d) := by unfold gSeq; rw [e]; rfl
theorem run_rt (e : g ρ = some (.rt d)) : runD g ρ = some d := by unfold runD; rw [e]
theorem gIf_t {t : Rho → Option Bool} (e : t ρ = some true) : gIf t g h ρ = g ρ := by unfold gIf; rw [e]; rfl
theorem gIf_f {t : Rho → Option Bool} (e : t ρ = some false) : gIf t g h ρ = h ρ := by unfold gIf; rw [e]; rfl
theorem gRet_eq {f : Fe} (e : f ρ = some d) : gRet f ρ = some (.rt d) := by unfold gRet; rw [e]; rfl
theorem gSet_eq {f : Fe} {i : Nat} (e : f ρ = some d) : gSet i f ρ = some (.nx (ρ.set i (some (.val d)))) := by unfold gSet; rw [e]; rfl
theorem fA_eq {F : List D → Option D} {a : Rho → Option (List D)} {ds : List D} (e : a ρ = some ds) : fA F a ρ = F ds := by unfold fA; rw [e]; rfl
theorem f1_eq {G : D → Option D} {f : Fe} {x : D} (e : f ρ = some x) : f1 G f ρ = G x := by unfold f1; rw [e]; rfl
theorem f2_eq {G : D → D → Option D} {f k : Fe} {x y : D} (e : f ρ = some x) (e2 : k ρ = some y) : f2 G f k ρ = G x y := by unfold f2; rw [e, e2]; rfl
theorem aCons_eq {f : Fe} {a : Rho → Option (List D)} {x : D} {xs : List D} (e : f ρ = some x) (e2 : a ρ = some xs) : aCons f a ρ = some (x :: xs) := by unfold aCons; rw [e, e2]; rfl
theorem bTest_eq {f : Fe} {b : Bool} (e : f ρ = some (.bl b)) : bTest f ρ = some b := by unfold bTest; rw [e]
theorem bOr_t {t u : Rho → Option Bool} (e : t ρ = some true) : bOr t u ρ = some true := by unfold bOr; rw [e]; rfl
theorem bOr_f {t u : Rho → Option Bool} {b : Bool} (e : t ρ = some false) (e2 : u ρ = some b) : bOr t u ρ = some b := by unfold bOr; rw [e]; exact e2
theorem bAnd_f {t u : Rho → Option Bool} (e : t ρ = some false) : bAnd t u ρ = some false := by unfold bAnd; rw [e]; rfl
theorem bAnd_t {t u : Rho → Option Bool} {b : Bool} (e : t ρ = some true) (e2 : u ρ = some b) : bAnd t u ρ = some b := by unfold bAnd; rw [e]; exact e2
theorem fIf_t {t : Rho → Option Bool} {f k : Fe} (e : t ρ = some true) : fIf t f k ρ = f ρ := by unfold fIf; rw [e]; rfl
theorem fIf_f {t : Rho → Option Bool} {f k : Fe} (e : t ρ = some false) : fIf t f k ρ = k ρ := by unfold fIf; rw [e]; rfl
theorem fComp_eq {n : Nat} {fr : List (Str × Nat)} {fi : Fi} {ft : Ft} {t : Rho → Option Bool} {f : Fe} {ds ys : List D} (e : fi ρ = some ds) (hz : ds.length ≤ sizeLine) (e2 : compD n ft t f ds (rhoIn n fr ρ) = some ys) : fComp n fr fi ft t f ρ = some (.lst ys) := by
  unfold fComp
  rw [e]
  show (if ds.length ≤ sizeLine then (compD n ft t f ds (rhoIn n fr ρ)).bind fun ys => some (D.lst ys) else none) = _
  rw [if_pos hz, e2]
  rfl
theorem iLst_eq {f : Fe} {ds : List D} (e : f ρ = some (.lst ds)) : iLst f ρ = some ds := by unfold iLst; rw [e]
theorem iRng_eq {f : Fe} {j : Int} (e : f ρ = some (.int j)) (h1 : -(2 ^ 62) ≤ j) (h2 : j < 2 ^ 62) : iRng f ρ = some ((List.range j.toNat).map fun (k : Nat) => D.int (k : Int)) := by
  unfold iRng
  rw [e]
  exact if_pos ⟨h1, h2⟩
end
theorem sl : 1000 ≤ sizeLine := by decide
theorem compD_typed {α β : Type} {n : Nat} {ft : Ft} {f : Fe} {ρ : Rho} (enc : α → D) (enb : β → D) (φ : α → β) (sub : α → Rho) : ∀ (xs : List α), (∀ x ∈ xs, ft (enc x) ρ = some (sub x) ∧ f (sub x) = some (enb (φ x)) ∧ reset n (sub x) = ρ) →
    compD n ft bTrue f (xs.map enc) ρ = some ((xs.map φ).map enb)
  | [], _ => rfl
  | x :: xs, h => by
    obtain ⟨h1, h2, h3⟩ := h x List.mem_cons_self
    have ih := compD_typed enc enb φ sub xs fun y hy => h y (List.mem_cons_of_mem _ hy)
    show ((ft (enc x) ρ).bind fun ρ1 => (bTrue ρ1).bind fun b => if b then (f ρ1).bind fun y => (compD n ft bTrue f (xs.map enc) (reset n ρ1)).bind fun ys => some (y :: ys) else compD n ft bTrue f (xs.map enc) (reset n ρ1)) = _
    rw [h1]
    show ((f (sub x)).bind fun y => (compD n ft bTrue f (xs.map enc) (reset n (sub x))).bind fun ys => some (y :: ys)) = _
    rw [h2, h3, ih]
    rfl
end CR
set_option maxHeartbeats 4000000
namespace L2
open PySem PySem.Spec PyProof.Rows
structure FlyB (P : Program) (w : World) (B : Heap) (a0 : Value) (outer : List Env) (H : Hp) (s : Shared) (a : Addr) (cls : Value) (H' : Hp) (s' : Shared) : Prop where
  os : s'.os = s.os
  bare : AllBare s'.gens
  fly : Heap.FlyingW B outer a cls a0 s'.heap
  kb : ∀ b o, s.heap.get? b = some o → H b = none → b ∉ frs outer → B.get? b = some o
  th : ∀ b o, s.heap.get? b = some o → b ∉ frs outer → ∃ o', B.get? b = some o'
  tb : ∀ b u, H' b = some u → ∃ o, B.get? b = some o
  un : Un (frs outer) [] H H' s.heap s'.heap
  hok : HOk P w H' s'.heap
noncomputable def CX1 (P : Program) (w : World) : CXT := fun outer H s E e s' => ∃ a cls B a0 H', e = .ref a ∧ FlyB P w B a0 outer H s a cls H' s' ∧ E cls none H'
section
variable {P : Program} {w : World} {B : Heap} {a0 : Value} {outer : List Env} {H H' : Hp} {s s' : Shared} {a : Addr} {cls : Value} {h' : Heap}
theorem hok_in {h1 h2 : Heap} (hok : HOk P w H' h1) (tb : ∀ b u, H' b = some u → ∃ o, B.get? b = some o) (k1 : B.StaysIn h1) (k2 : B.StaysIn h2) : HOk P w H' h2 := fun b u e => by
  refine (hok b u e).stay (fun c o hc q => ?_) (fun _ z => z) fun _ _ z => z
  have : ∃ o', B.get? c = some o' := by
    rcases hc with rfl | hc
    · exact tb _ u e
    · exact tb c _ hc
  obtain ⟨o', e'⟩ := this
  have z := k1 c o' e'
  rw [q] at z
  cases z
  exact k2 c _ e'
theorem ObjOk.there {h : Heap} {o : HO} (x : ObjOk P w H h a o) : ∃ ob, h.get? a = some ob := by
  cases o with
  | lst xs => obtain ⟨_, _, _, _, e⟩ := x; exact ⟨_, e⟩
  | tup xs => obtain ⟨_, _, _, ob, e, _⟩ := x; exact ⟨_, e⟩
  | dK kvs => obtain ⟨_, _, _, _, o, _, _, e, _⟩ := x; exact ⟨_, e⟩
  | dT kvs => obtain ⟨_, _, _, _, o, _, _, e, _⟩ := x; exact ⟨_, e⟩
  | set S n => obtain ⟨o, _, _, _, e, _⟩ := x; exact ⟨_, e⟩
  | ins C dx fs => obtain ⟨_, _, _, e, _⟩ := x; exact ⟨_, e⟩
  | own y => obtain ⟨_, e⟩ := x; exact ⟨_, e⟩
  | xd fs => obtain ⟨_, ⟨_, _, _, e, _⟩, _⟩ := x; exact ⟨_, e⟩
  | rng lo hi => obtain ⟨_, _, _, e⟩ := x; exact ⟨_, e⟩
  | frz ob u => obtain ⟨e, _⟩ := x; exact ⟨_, e⟩
  | tbl ps => exact ⟨_, (show h.get? a = some _ from x)⟩
  | met f y => exact ⟨_, (show h.get? a = some _ from x)⟩
  | ext φ => obtain ⟨_, e, _⟩ := x; exact e
theorem FlyB.move (F : FlyB P w B a0 outer H s a cls H' s') (fl : Heap.FlyingW B outer a cls a0 h') (sm : s'.heap.UpToSlots h') : FlyB P w B a0 outer H s a cls H' { s' with heap := h' } := by
  have slot : ∀ b o, s.heap.get? b = some o → H b = none → b ∈ frs outer → ∃ sl, h'.get? b = some { o with slots := sl } := fun b o q n hb => by
    obtain ⟨sl, e⟩ := F.un.slot b o q n hb (by simp)
    obtain ⟨_, o', e', hd⟩ := F.fly.2.2.1.mem hb
    rw [e] at e'
    cases e'
    obtain ⟨sl', e2⟩ := sm b _ e hd
    exact ⟨sl', e2⟩
  refine ⟨F.os, F.bare, fl, F.kb, F.th, F.tb, ⟨fun b o q n hb _ => fl.1 b o (F.kb b o q n hb), fun b o q n hb _ => slot b o q n hb, F.un.free, fun b o q _ => ?_, F.un.tups, F.un.frzs, F.un.tbls⟩, hok_in F.hok F.tb F.fly.1 fl.1⟩
  by_cases hb : b ∈ frs outer
  · obtain ⟨_, o', e', hd⟩ := F.fly.2.2.1.mem hb
    obtain ⟨sl', e2⟩ := sm b _ e' hd
    exact ⟨_, e2⟩
  · obtain ⟨o', e'⟩ := F.th b o q hb
    exact ⟨o', fl.1 b o' e'⟩
end
section
variable {X : Cx} {pins : List (Addr × Obj)} {σ : St} {H H' : Hp} {s : Shared} {B : Heap} {a0 : Value} {a : Addr} {cls : Value} {h' : Heap}
theorem Inv.notIn (I : Inv X pins σ H s) {b : Addr} {o : Obj} (e : X.s₀.heap.get? b = some o) (n : b ∉ X.fs) : b ∉ frs X.stack := fun hb => by
  rcases List.mem_cons.mp (I.stkSub b hb) with z | z
  · exact absurd (Nat.lt_of_lt_of_le (Heap.lt_size e) I.ok.above) (by rw [z]; exact Nat.lt_irrefl _)
  · exact n z
theorem Inv.flyOut (I : Inv X pins σ H s) (hex : X.ex = []) (fl : Heap.FlyingW B X.outer a cls a0 h') (kb : ∀ b o, s.heap.get? b = some o → H b = none → b ∉ frs X.stack → B.get? b = some o)
    (th : ∀ b o, s.heap.get? b = some o → b ∉ frs X.stack → ∃ o', B.get? b = some o') (tb : ∀ b u, H' b = some u → ∃ o, B.get? b = some o)
    (slot : ∀ b o, s.heap.get? b = some o → H b = none → b ∈ X.fs → ∃ sl, h'.get? b = some { o with slots := sl }) (free : ∀ b o, s.heap.get? b = some o → H b = none → H' b = none)
    (tups : ∀ b xs, H b = some (.tup xs) → H' b = some (.tup xs)) (frzs : ∀ b o u, H b = some (.frz o u) → H' b = some (.frz o u)) (tbls : ∀ b ps, H b = some (.tbl ps) → ∃ more, H' b = some (.tbl (ps ++ more)))
    (hok : HOk X.prog X.w H' h') {s' : Shared} (os : s'.os = s.os) (bare : AllBare s'.gens) : FlyB X.prog X.w B a0 X.outer X.H₀ X.s₀ a cls H' { s' with heap := h' } := by
  have nx : ∀ b : Addr, b ∉ X.ex := fun b z => by rw [hex] at z; exact absurd z (by simp)
  have kb' : ∀ b o, X.s₀.heap.get? b = some o → X.H₀ b = none → b ∉ frs X.outer → B.get? b = some o := fun b o q n hb =>
    kb b o (I.base.keep b o q n hb (nx b)) (I.base.free b o q n (nx b)) (I.notIn q hb)
  have th' : ∀ b o, X.s₀.heap.get? b = some o → b ∉ frs X.outer → ∃ o', B.get? b = some o' := fun b o q hb => by
    obtain ⟨o1, e1⟩ := I.base.there b o q (nx b)
    exact th b o1 e1 (I.notIn q hb)
  have sl' : ∀ b o, X.s₀.heap.get? b = some o → X.H₀ b = none → b ∈ frs X.outer → ∃ sl, h'.get? b = some { o with slots := sl } := fun b o q n hb => by
    obtain ⟨sl, e1⟩ := I.base.slot b o q n hb (nx b)
    obtain ⟨sl2, e2⟩ := slot b _ e1 (I.base.free b o q n (nx b)) hb
    exact ⟨sl2, e2⟩
  refine ⟨os.trans I.os, bare, fl, kb', th', tb, ⟨fun b o q n hb _ => fl.1 b o (kb' b o q n hb), fun b o q n hb _ => sl' b o q n hb, fun b o q n _ => ?_, fun b o q _ => ?_, fun b xs q => tups b xs (I.base.tups b xs q), fun b o u q => frzs b o u (I.base.frzs b o u q), fun b ps q => ?_⟩, hok⟩
  · obtain ⟨o', e'⟩ := I.base.there b o q (nx b)
    exact free b o' e' (I.base.free b o q n (nx b))
  · by_cases hb : b ∈ frs X.outer
    · obtain ⟨_, o', e', hd⟩ := fl.2.2.1.mem hb
      exact ⟨o', e'⟩
    · obtain ⟨o', e'⟩ := th' b o q hb
      exact ⟨o', fl.1 b o' e'⟩
  · obtain ⟨m1, e1⟩ := I.base.tbls b ps q
    obtain ⟨m2, e2⟩ := tbls b _ e1
    exact ⟨m1 ++ m2, by rw [e2, Array.append_assoc]⟩
end
structure Thr (X : Cx) (E : XK) : Prop where
  thr : ∀ (pins : List (Addr × Obj)) (σ : St) (H : Hp) (s : Shared) (e : Addr) (h' : Heap) (cls : Value) (vs : List Value), Inv X pins σ H s → Heap.MadeExcOf s.heap h' e cls vs → E cls none H → X.xe (.ref e) { s with heap := h' }
  pas : Passes (CX1 X.prog X.w) X E
  own : PassesOwn (model X.prog X.w) X.A X.env X.xe
theorem thr_cx {P : Program} {w : World} {K : PySem.W.Frag} {mg : Str → Option Value} {base : Heap} {N : List Str} {qual : Str} {scope : Scope} {f : Addr} {cd : Value} {A : Around} {outer : List Env} {s₀ : Shared} {H₀ : Hp} {E : XK} :
    Thr (cxOf (CX1 P w) P w K mg base N qual scope f cd A outer s₀ H₀ E) E := by
  refine ⟨fun pins σ H s e h' cls vs I m hE => ?_, fun pins σ H s e s' I hcx => ?_, PassesOwn.leaving⟩
  · have hin : ∀ env ∈ (envOfC qual scope s₀.heap.objs.size f cd :: outer), ∀ b, env.frame = some b → b ∈ frs (envOfC qual scope s₀.heap.objs.size f cd :: outer) := fun env he b hb => List.mem_filterMap.mpr ⟨env, he, hb⟩
    refine wpAny_leaves_madeW (base := PySem.W.hideAll s.heap (frs (envOfC qual scope s₀.heap.objs.size f cd :: outer))) (outer := outer) I.ok.frames rfl (fun b o q => PySem.W.of_hideAll _ q) (PySem.W.funFrames_hide I.stack hin) m fun h'' t fl tu nt sm => ?_
    refine ⟨e, cls, _, _, H, rfl, I.flyOut rfl fl (fun b o q _ n => PySem.W.hideAll_get _ q n) (fun b o q n => ⟨o, PySem.W.hideAll_get _ q n⟩) (fun b u q => ?_) (fun b o q n hb => ?_) (fun b o _ n => n) (fun _ _ q => q) (fun _ _ _ q => q) (fun b ps q => ⟨#[], by rw [q]; simp⟩) ?_ rfl I.bare, hE⟩
    · obtain ⟨o, ho⟩ := (I.hok b u q).there
      exact ⟨o, PySem.W.hideAll_get _ ho fun hm => by rw [I.stkFree b hm] at q; cases q⟩
    · obtain ⟨_, o', e', hd⟩ := I.funs.mem hb
      rw [q] at e'
      cases e'
      exact sm b o (m.keeps b o q) hd
    · refine hok_in I.hok (B := PySem.W.hideAll s.heap (frs (envOfC qual scope s₀.heap.objs.size f cd :: outer))) (fun b u q => ?_) (fun b o q => PySem.W.of_hideAll _ q) fl.1
      obtain ⟨o, ho⟩ := (I.hok b u q).there
      exact ⟨o, PySem.W.hideAll_get _ ho fun hm => by rw [I.stkFree b hm] at q; cases q⟩
  · obtain ⟨a, cls, B, a0, H', rfl, F, hE⟩ := hcx
    refine wpAny_leaves_onW (outer := outer) I.ok.frames rfl F.fly fun h'' fl sm => ?_
    have F2 := F.un
    refine ⟨a, cls, B, a0, H', rfl, I.flyOut rfl fl F.kb F.th F.tb (fun b o q n hb => ?_) (fun b o q n => F2.free b o q n (by simp)) F2.tups F2.frzs F2.tbls (hok_in F.hok F.tb F.fly.1 fl.1) F.os F.bare, hE⟩
    have hb' : b ∈ frs (envOfC qual scope s₀.heap.objs.size f cd :: outer) := by
      unfold frs
      rw [List.filterMap_cons]
      exact List.mem_cons_of_mem _ hb
    obtain ⟨sl, e⟩ := F2.slot b o q n hb' (by simp)
    obtain ⟨_, o', e', hd⟩ := F.fly.2.2.1.mem hb'
    rw [e] at e'
    cases e'
    obtain ⟨sl2, e2⟩ := sm b _ e hd
    exact ⟨sl2, e2⟩
end L2
set_option maxHeartbeats 4000000
namespace L2
open PySem PySem.Spec PyProof.Rows
section
variable {X : Cx} {E : XK} {C : Addr} {x : Str} {np cpos pos : Pos} {e : Expr} {es : List Expr} {t : TA} {bmB : List Value} {Bn newId initId : String}
noncomputable def tRaise (E : XK) (C : Addr) (t : TA) : TS := fun _ σ H => t σ H fun vs H1 => vs.length ≤ sizeLine ∧ E (.ref C) none H1
theorem ps_raise (T : Thr X E) (O : OwnCls x C bmB newId X.mg X.base) (FB : ExcBaseFacts Bn newId initId bmB) (hc : X.calm = true) (hg : Gl X x) (ha : PA X (e :: es) t) (hd : (x == ("__debug__" : Str)) = false := by decide)
    (he : starEach (e :: es) X.env = (false, eval e X.env) :: starEach es X.env := by rfl) (hplain : (backTo cpos (starEach es X.env)).any (·.1) = false := by rfl) :
    PS X (.Raise (some (.Call (.Name x np) (e :: es) [] cpos)) none pos) (tRaise E C t) := by
  intro pins s σ H D I h
  obtain ⟨tl, N, nm, q, bs, hdct, sn, sub, ab, col, dd, k0, k1, k2, k3, k5, mN, hC, hN, hni, TT⟩ := O.obj
  refine wpAny_Raise_call_subT (C := C) (nm := nm) (q := q) (N := N) (bs := bs) (bm := tl) (hdct := hdct) (sn := sn) (sub := sub) (ab := ab) (col := col) (dd := dd) (k0 := k0) (k1 := k1) (k2 := k2) (k3 := k3) (k5 := k5)
    FB (mN := mN) (TT.hasType FB.hasBase) (I.ok.hd hc) (by rw [he]; show (false || (backTo cpos (starEach es X.env)).any (·.1)) = false; rw [hplain]; rfl) hni (ld_glob I hg O.bound ⟨rfl, ?_⟩ hd)
  have h1 := ha cpos pins s σ H _ I h
  rw [he] at h1 ⊢
  refine Calls.evalArgs_plain (wpAny_mono h1 (fun us s2 h2 => ⟨rfl, ?_⟩) fun _ _ y => y)
  obtain ⟨vs, H', I', r, hl, hE⟩ := h2
  refine ⟨by rw [← r.length]; exact hl, I'.bk _ _ hC, hN.keeps I'.bk, TT.keeps I'.bk, fun h' a m => ?_⟩
  exact T.thr pins σ H' s2 a h' (.ref C) us I' m hE
end
noncomputable abbrev Cx.hand (X : Cx) (e : Addr) : Cx := { X with A := X.A.mark (some (.ref e)), calm := false, xe := fun _ _ => False }
section
variable {X : Cx} {pins : List (Addr × Obj)} {σ : St} {H : Hp} {s : Shared}
theorem Cx.Ok.hand (ok : X.Ok) (e : Addr) : (X.hand e).Ok :=
  ⟨ok.mod, ok.kind, ok.glob, ok.blt, ok.above, ok.inj, ok.has, ok.cab, (fun z => by cases z), ok.frames, ok.stk, ok.exf, ok.bs, ok.bsz, ok.noex, ok.exfs, ok.funs, ok.frf⟩
theorem Inv.hand (I : Inv X pins σ H s) (e : Addr) : Inv (X.hand e) pins σ H s := ⟨I.ok.hand e, I.os, I.bare, I.base, I.loc, I.cell, I.free, I.freeC, I.pin, I.hok, I.len⟩
theorem Inv.ofHand {e : Addr} (ok : X.Ok) (I : Inv (X.hand e) pins σ H s) : Inv X pins σ H s := ⟨ok, I.os, I.bare, I.base, I.loc, I.cell, I.free, I.freeC, I.pin, I.hok, I.len⟩
theorem unbind_ok {M : Model} {A : Around} {E : Value → Shared → Prop} {i : Nat} {x : Str} {v : V} {Q : Unit → Shared → Prop} (I : Inv X pins σ H s) (hN : X.N.Nodup) (hi : X.N[i]? = some x) (hk : X.env.scope.names.lookup x = some .local) (hv : σ[i]? = some (some v))
    (h : ∀ s', Inv X pins (σ.set i none) H s' → Q () s') : wpAny M A (unbindName X.env x) Q E s := by
  obtain ⟨m, hn, hl⟩ := id I.loc
  have hcls : (X.env.scope.kind == .class || (X.env.scope.kind == .module && X.env.locals != X.env.globals)) = false := by rw [I.ok.kind]; rfl
  have cne := I.cne
  have hmx : ∃ u, m x = some u := by
    obtain ⟨u, r, l⟩ := hl i x v hi hv (.inl hk)
    rcases l with ⟨_, e⟩ | ⟨k | k, _⟩
    · exact ⟨u, e⟩
    · have k' : X.env.scope.names.lookup x = some .cell := k
      rw [hk] at k'; cases k'
    · have k' : X.env.scope.names.lookup x = some .free := k
      rw [hk] at k'; cases k'
  obtain ⟨u, hu⟩ := hmx
  have tracked : ∀ {a : Addr} {h' : Heap}, (∃ o, s.heap.get? a = some o ∧ H a = none) → Heap.SameBut a s.heap h' → HOk X.prog X.w H h' := fun {a h'} ha hs b ob e => by
    obtain ⟨_, _, hfree⟩ := ha
    refine (I.hok b ob e).stay (fun c w' hc q => (hs.2 c ?_).trans q) (fun _ q => q) fun _ _ q => q
    rintro rfl
    rcases hc with rfl | hc
    · rw [hfree] at e; cases e
    · rw [hfree] at hc; cases hc
  refine wpAny_unbindName_local hk hn hu hcls fun h' u' hn' hs => ?_
  obtain ⟨oL, _, _, hoL, _⟩ := id hn
  refine h _ ⟨I.ok, I.os, I.bare, ⟨fun b o e n hb hx => ?_, fun b o e n hb hx => ?_, I.base.free, fun b o e hx => ?_, I.base.tups, I.base.frzs, I.base.tbls⟩, ⟨_, hn', fun j y v' e1 e2 e3 => ?_⟩, fun y c e => ?_, I.free, I.freeC, fun p hp => ?_, tracked ⟨oL, hoL, I.free⟩ hs, by simpa using I.len⟩
  · exact (hs.2 b (Nat.ne_of_lt (Nat.lt_of_lt_of_le (Heap.lt_size e) I.ok.above))).trans (I.base.keep b o e n hb hx)
  · obtain ⟨sl, e1⟩ := I.base.slot b o e n hb hx
    exact ⟨sl, (hs.2 b (Nat.ne_of_lt (Nat.lt_of_lt_of_le (Heap.lt_size e) I.ok.above))).trans e1⟩
  · obtain ⟨o', e1⟩ := I.base.there b o e hx
    exact ⟨o', (hs.2 b (Nat.ne_of_lt (Nat.lt_of_lt_of_le (Heap.lt_size e) I.ok.above))).trans e1⟩
  · by_cases hj : j = i
    · subst hj
      rw [List.getElem?_set] at e2
      rw [if_pos rfl] at e2
      split at e2 <;> cases e2
    · rw [List.getElem?_set_ne (Ne.symm hj)] at e2
      obtain ⟨u', r', q⟩ := hl j y v' e1 e2 e3
      refine ⟨u', r', ?_⟩
      rcases q with ⟨k, e⟩ | ⟨k, c, e, z⟩
      · refine .inl ⟨k, ?_⟩
        have : y ≠ x := fun e => hj (nodup_ix hN e1 (e ▸ hi))
        simp [this, e]
      · exact .inr ⟨k, c, e, z.sameBut hs (cne y c e)⟩
  · obtain ⟨w', z⟩ := I.cell y c e
    exact ⟨w', z.sameBut hs (cne y c e)⟩
  · obtain ⟨e, n, ne, nf, d⟩ := I.pin p hp
    exact ⟨(hs.2 p.1 ne).trans e, n, ne, nf, d⟩
end
section
variable {X : Cx} {pins : List (Addr × Obj)} {σ : St} {H H' : Hp} {s s' : Shared} {B : Heap} {a0 : Value} {a C : Addr}
theorem FlyB.fresh {P : Program} {w : World} {outer : List Env} {cls : Value} (F : FlyB P w B a0 outer H s a cls H' s') : H' a = none := by
  cases q : H' a with
  | none => rfl
  | some u =>
    obtain ⟨o, e⟩ := F.tb a u q
    rw [F.fly.2.1] at e; cases e
theorem FlyB.new {P : Program} {w : World} {outer : List Env} {cls : Value} (F : FlyB P w B a0 outer H s a cls H' s') {b : Addr} {o : Obj} (e : s.heap.get? b = some o) : b ≠ a := fun z => by
  subst z
  by_cases hb : b ∈ frs outer
  · obtain ⟨_, o', e', hd⟩ := F.fly.2.2.1.mem hb
    obtain ⟨oe, vs, e1, _, e2, _⟩ := F.fly.first
    rw [e'] at e1
    cases e1
    exact hd _ e2
  · obtain ⟨o', e'⟩ := F.th b o e hb
    rw [F.fly.2.1] at e'; cases e'
theorem FlyB.inv (F : FlyB X.prog X.w B a0 X.stack H s a (.ref C) H' s') (I : Inv X pins σ H s) : Inv X pins σ (upd H' a (.ext (DL.excAt a C))) s' := by
  have hn := F.fresh
  refine I.call' (ch := []) F.os ⟨F.un.keep, F.un.slot, fun b o q n hx => ?_, F.un.there, fun b xs q => ?_, fun b o u q => ?_, fun b ps q => ?_⟩ (fun b u q => ?_) F.bare fun b z => absurd z (by simp)
  · rw [upd_ne (F.new q)]; exact F.un.free b o q n hx
  · have := F.un.tups b xs q
    rw [upd_ne (ne_of_none this hn)]; exact this
  · have := F.un.frzs b o u q
    rw [upd_ne (ne_of_none this hn)]; exact this
  · obtain ⟨more, e⟩ := F.un.tbls b ps q
    exact ⟨more, by rw [upd_ne (ne_of_none e hn)]; exact e⟩
  · by_cases hb : b = a
    · subst hb
      rw [upd_same] at q
      cases q
      obtain ⟨o, e, hc⟩ := F.fly.there
      exact ⟨⟨o, e, hc⟩, ⟨o, e⟩, fun h1 h2 ⟨o1, e1, c1⟩ k => ⟨o1, k o1 e1, c1⟩⟩
    · rw [upd_ne hb] at q
      exact (F.hok b u q).stay (fun c v _ z => z) (fun c z => by rw [upd_ne (ne_of_none z hn)]; exact z) fun c xs z => by rw [upd_ne (ne_of_none z hn)]; exact z
end
end L2
set_option maxHeartbeats 4000000
namespace L2
open PySem PySem.Spec PyProof.Rows
section
variable {X : Cx} {rn n : Str} {np hpos pos : Pos} {b₀ : Stmt} {suite : List Stmt} {ts : TS} {cR : Value} {j : Nat}
theorem caught (hst : X.stack = X.env :: X.outer) (hfr : X.env.frame = some X.env.locals) (hgR : Gl X rn) (hmR : X.mg rn = some cR) (hN : X.N.Nodup) (hj : X.N[j]? = some n) (hkn : X.env.scope.names.lookup n = some .local)
    (hsu : ∀ a, PSs (X.hand a) (b₀ :: suite) ts) {pins : List (Addr × Obj)} {σ : St} {H : Hp} {s s' : Shared} {Dn : Ends} {e : Value} {C : Addr} {E1 : XK} (I : Inv X pins σ H s) (hcx : CX1 X.prog X.w X.stack H s E1 e s')
    (hE : ∀ cls d H', E1 cls d H' → ∃ C, cls = .ref C ∧ PySem.W.exmOne X.K (.ref C) cR = some true ∧ ∀ a, H' a = none → ts { nx := fun σ' H2 => (∃ v, σ'[j]? = some (some v)) ∧ Dn.nx (σ'.set j none) H2, rt := fun _ _ => False } (σ.set j (some (.ref a))) (upd H' a (.ext (DL.excAt a C))))
    (hd : (rn == ("__debug__" : Str)) = false := by decide) :
    wpAny (model X.prog X.w) X.A (noteFrame e X.env) (fun _ s₂ => wpAny (model X.prog X.w) X.A (setFlight e none) (fun _ s₃ => wpAny (model X.prog X.w) X.A (handleBy e X.env [.ExceptHandler (some (.Name rn np)) (some n) (b₀ :: suite) hpos]) (SP X pins Dn) X.xe s₃) X.xe s₂) X.xe s' := by
  obtain ⟨a, cls, B, a0, H', rfl, F, hq⟩ := hcx
  obtain ⟨C, rfl, hm, hts⟩ := hE _ _ _ hq
  have fl0 := F.fly
  have frm := I.ok.frames
  rw [hst] at fl0 frm
  refine wpAny_looks_onW frm hfr fl0 fun h₄ held₄ sm₄ => ?_
  refine wpAny_landsW held₄ fun h₅ fl₅ sm₅ => ?_
  have F5 := F.move (h' := h₅) (by rw [hst]; exact fl₅) (sm₄.trans sm₅)
  have I5 := (F5.inv I).hand a
  refine wpAny_handleBy_cons (codeAny_handlers_test (ld_glob I5 hgR hmR ?_ hd)) (by intro q; cases q)
  have LT : PySem.W.Looks (model X.prog X.w) h₅ (typeOf (.ref a)) (.ref C) := by
    obtain ⟨o, e, hc⟩ := fl₅.there
    rw [← hc]
    exact (PySem.W.Looks.ld e).andThen .now
  refine (PySem.W.exm_one (K := X.K) I5.kIn LT hm).here ?_
  refine codeAny_handlers_suite_as ?_
  refine lands_againW fl₅ fun h₆ fl₆ sm₆ => ?_
  have F6 := F5.move (h' := h₆) (by rw [hst]; exact fl₆) sm₆
  have I6 := (F6.inv I).hand a
  have hjl : j < σ.length := by rw [I.len]; exact (List.getElem?_eq_some_iff.mp hj).1
  refine store_ok (X := X.hand a) (i := j) (v := .ref a) I6 hN hj (.inl hkn) rfl (fun s7 I7 => ?_) (.inr hkn)
  refine wpAny_mono (hsu a pins s7 _ _ _ I7 (hts a F.fresh)) (fun f s8 q => ?_) fun _ _ z => False.elim z
  cases f with
  | next =>
    obtain ⟨σ8, H8, I8, ⟨v, hv⟩, q8⟩ := q
    have I8' := I8.ofHand I.ok
    refine wpAny_bind (wpAny_bindName (store_ok (i := j) (v := .non) I8' hN hj (.inl hkn) rfl (fun s9 I9 => ?_) (.inr hkn)))
    refine wpAny_onRaise (unbind_ok (v := .non) I9 hN hj hkn ?_ fun s10 I10 => ?_)
    · have hl : j < σ8.length := (List.getElem?_eq_some_iff.mp hv).1
      rw [List.getElem?_set, if_pos rfl, if_pos hl]
    · refine ⟨_, H8, I10, ?_⟩
      rw [List.set_set]
      exact q8
  | brk => obtain ⟨_, _, _, q⟩ := q; exact q.elim
  | cont => obtain ⟨_, _, _, q⟩ := q; exact q.elim
  | ret u => obtain ⟨_, _, _, _, _, q⟩ := q; exact q.elim
end
section
variable {X : Cx} {k : Nat} {f C : Addr} {fd : FuncData} {ps : List Str} {sp : Sp} {E1 : XK}
theorem run_makeX {CX : CXT} {pins : List (Addr × Obj)} {σ : St} {H : Hp} {s : Shared} {Q : VK} {us : List Value} {vs : List V} {Ex : Value → Shared → Prop} (M : Mk X.K C f) (F : FnOk X.prog X.w X.K X.mg X.base CX k f fd ps sp) (hr : Room (k + 1) X.A) (hb : Binds X.K fd ps [])
    (I : Inv X pins σ H s) (r : Vals vs us) (hx : ∀ H s e s', Inv X pins σ H s → CX X.stack H s E1 e s' → Ex e s')
    (h : ∀ x dx, H x = none → H dx = none → dx ≠ x → sp (.ref x :: vs) (upd (upd H dx (.own x)) x (.ins C dx [])) (fun v H2 => v = .non ∧ Q (.ref x) H2) E1) :
    wpAny (model X.prog X.w) X.A (call (.ref C) us) (EP X pins σ Q) Ex s := by
  have hx' : ∀ H s e s', Inv (X.wish Ex) pins σ H s → CX X.stack H s E1 e s' → Ex e s' := fun H s e s' I => hx H s e s' I.unwish
  have hq := h (s.heap.objs.size + 1) s.heap.objs.size (I.hok.fresh (Nat.le_succ _)) (I.hok.fresh (Nat.le_refl _)) (Nat.ne_of_lt (Nat.lt_succ_self _))
  have I2 := Inv.made (C := C) I
  have r2 : Vals (V.ref (s.heap.objs.size + 1) :: vs) (Value.ref (s.heap.objs.size + 1) :: us) := .cons rfl r
  have hl : (Value.ref (s.heap.objs.size + 1) :: us).length = ps.length := by
    have e := r2.length
    rw [F.len _ _ _ _ hq] at e
    exact e.symm
  refine wpAny_call (make_map (f := f) I.kIn M.makes M.init (beq_iff_eq.mp M.fn) (codeAny_mono (F.run _ X.stack _ _ ⟨Value.ref (s.heap.objs.size + 1) :: us, []⟩ (Value.ref (s.heap.objs.size + 1) :: us) _ _ E1 (hr.make C us [])
    (I2.env0.make C us []) (by
      have := hb _ (Value.ref (s.heap.objs.size + 1) :: us) I2.kIn (by rw [List.append_nil]; exact hl)
      rwa [List.append_nil] at this) r2 hq) fun r s' hq' => ?_))
  cases r with
  | error e => exact hx _ _ e s' I2 hq'
  | ok fl =>
    cases fl with
    | ret u =>
      obtain ⟨v, H', I3, rv, ev, q3⟩ := I2.after hq'
      subst ev
      exact ⟨rv, ⟨V.ref (s.heap.objs.size + 1), H', I3, rfl, q3⟩⟩
    | next => exact False.elim hq'
    | brk => exact False.elim hq'
    | cont => exact False.elim hq'
variable {x cn rn n : Str} {p pos' cpos pos1 np hpos pos : Pos} {e : Expr} {es : List Expr} {t : TA} {b₀ : Stmt} {suite : List Stmt} {ts : TS} {cR : Value} {i j : Nat}
noncomputable def xTry (K : PySem.W.Frag) (cR : Value) (j : Nat) (ts : TS) (Dn : Ends) (σ : St) : XK := fun cls _ H' => ∃ C, cls = .ref C ∧ PySem.W.exmOne K (.ref C) cR = some true ∧
  ∀ a, H' a = none → ts { nx := fun σ' H2 => (∃ v, σ'[j]? = some (some v)) ∧ Dn.nx (σ'.set j none) H2, rt := fun _ _ => False } (σ.set j (some (.ref a))) (upd H' a (.ext (DL.excAt a C)))
theorem ps_tryMake (hst : X.stack = X.env :: X.outer) (hfr : X.env.frame = some X.env.locals) (M : Mk X.K C f) (F : FnOk X.prog X.w X.K X.mg X.base (CX1 X.prog X.w) k f fd ps sp) (hr : Room (k + 1) X.A) (hb : Binds X.K fd ps []) (hg : Gl X cn) (hm : X.mg cn = some (.ref C))
    (ha : PA X.nox (e :: es) t) (hgR : Gl X rn) (hmR : X.mg rn = some cR) (hN : X.N.Nodup) (hi : X.N[i]? = some x) (hx : Loc X.env.scope x) (hj : X.N[j]? = some n) (hkn : X.env.scope.names.lookup n = some .local)
    (hsu : ∀ a, PSs (X.hand a) (b₀ :: suite) ts) (hdb : (cn == ("__debug__" : Str)) = false := by decide) (hdR : (rn == ("__debug__" : Str)) = false := by decide)
    (he : starEach (e :: es) X.env = (false, eval e X.env) :: starEach es X.env := by rfl) (hpl : (backTo cpos (starEach es X.env)).any (·.1) = false := by rfl)
    (hs : swapsWith (.Call (.Name cn p) (e :: es) [] cpos) (some (.Name x pos')) pos1.line X.env = pure false := by rfl) (hf : X.fn x = true ∨ X.env.scope.names.lookup x = some .local := by first | exact .inl rfl | exact .inr rfl | assumption) :
    PS X (.Try [.Assign [.Name x pos'] (.Call (.Name cn p) (e :: es) [] cpos) pos1] [.ExceptHandler (some (.Name rn np)) (some n) (b₀ :: suite) hpos] [] [] pos)
      (fun Dn σ H => t σ H fun vs H1 => ∀ y dx, H1 y = none → H1 dx = none → dx ≠ y → sp (.ref y :: vs) (upd (upd H1 dx (.own y)) y (.ins C dx [])) (fun v H2 => v = .non ∧ Dn.nx (σ.set i (some (.ref y))) H2) (xTry X.K cR j ts Dn σ)) := by
  intro pins s σ H Dn I h
  refine wpAny_Try_except (wpAny_execs_cons (wpAny_Assign_Name (wpAny_Call_Name_kw (ld_glob I hg hm ?_ hdb)) hs))
  refine PySem.W.callWith_K (h₀ := X.base) I.ok.mod.kin M.kp (wpAny_mono (ha cpos pins s σ H _ (I.wish _) h) (fun us s1 ⟨vs, H1, I1, r, q⟩ => ⟨I1.unwish.kIn, ?_⟩) fun _ _ z => False.elim z) he hpl
  refine thn (run_makeX (Q := fun v H2 => Dn.nx (σ.set i (some v)) H2) (E1 := xTry X.K cR j ts Dn σ) M F hr hb I1.unwish r (fun H2 s2 e2 s3 I2 hcx => ?_) q) fun v s4 ⟨y, H4, I4, r4, q4⟩ => ?_
  · exact caught hst hfr hgR hmR hN hj hkn hsu (C := C) I2 hcx (fun cls d H' z => z) hdR
  · exact store_ok I4 hN hi hx r4 (fun s5 I5 => wpAny_execs_nil (wpAny_execs_nil ⟨_, H4, I5, q4⟩)) hf
end
end L2
set_option maxHeartbeats 4000000
namespace DL
open PySem PySem.Spec L2 PyProof.Rows
inductive OutX where
  | ok (o : Out)
  | xr (C : Addr)
noncomputable abbrev Fx := Rho → Option OutX
noncomputable def xEnd (K : PySem.W.Frag) (Hs₀ H₀ Hs : Hp) (Dn : Ends) (E : XK) : OutX → Prop
  | .ok o => oEnd K Hs₀ H₀ Hs Dn o
  | .xr C => ∀ H' Hs', Grow Hs₀ H₀ Hs' H' → E (.ref C) none H'
noncomputable def tFX (K : PySem.W.Frag) (E : XK) (g : Fx) : TS := fun Dn σ H => ∃ Hs₀ H₀ ρ Hs out, St1 K Hs₀ H₀ Hs H ρ σ ∧ g ρ = some out ∧ xEnd K Hs₀ H₀ Hs Dn E out
theorem xEnd.weak {K : PySem.W.Frag} {Hs₀ H₀ Hs Hs' : Hp} {Dn : Ends} {E : XK} (s : Same Hs Hs') : ∀ {o : OutX}, xEnd K Hs₀ H₀ Hs Dn E o → xEnd K Hs₀ H₀ Hs' Dn E o
  | .ok _, h => oEnd.weak s h
  | .xr _, h => h
noncomputable def PFX (X : Cx) (K : PySem.W.Frag) (st : Stmt) (g : Fx) : Prop := ∀ E, Thr X E → X.K = K → PS X st (tFX K E g)
noncomputable def PFXs (X : Cx) (K : PySem.W.Frag) (st : List Stmt) (g : Fx) : Prop := ∀ E, Thr X E → X.K = K → PSs X st (tFX K E g)
noncomputable def xOk (g : Fs) : Fx := fun ρ => (g ρ).map OutX.ok
noncomputable def xSeq (g h : Fx) : Fx := fun ρ => (g ρ).bind fun o => match o with
  | .ok (.nx ρ') => h ρ'
  | .ok (.rt d) => some (.ok (.rt d))
  | .xr C => some (.xr C)
noncomputable def xIf (t : Rho → Option Bool) (g h : Fx) : Fx := fun ρ => (t ρ).bind fun b => if b then g ρ else h ρ
inductive Rx where
  | val (d : D)
  | xr (C : Addr)
noncomputable def xCall (F : List D → Option Rx) (as : Rho → Option (List D)) : Fx := fun ρ => (as ρ).bind fun ds => (F ds).bind fun r => match r with
  | .val _ => some (.ok (.nx ρ))
  | .xr C => some (.xr C)
noncomputable def xRaise (C : Addr) (fj : Rho → Option Nat) : Fx := fun ρ => (fj ρ).bind fun n => if n ≤ sizeLine then some (.xr C) else none
noncomputable def loopX (ft : Ft) (g : Fx) : List D → Fx
  | [] => fun ρ => some (.ok (.nx ρ))
  | d :: ds => fun ρ => (ft d ρ).bind fun ρ1 => (g ρ1).bind fun o => match o with
    | .ok (.nx ρ2) => loopX ft g ds ρ2
    | .ok (.rt d) => some (.ok (.rt d))
    | .xr C => some (.xr C)
noncomputable def xFor (fi : Fi) (ft : Ft) (g : Fx) : Fx := fun ρ => (fi ρ).bind fun ds => loopX ft g ds ρ
section
variable {X : Cx} {K : PySem.W.Frag} {st : Stmt} {sts body : List Stmt} {g h : Fx} {gs : Fs} {e : Expr} {es : List Expr} {f : Fe} {pos : Pos} {as : Rho → Option (List D)} {t : Rho → Option Bool} {c : Expr}
theorem px_lift (h1 : PFS X K st gs) : PFX X K st (xOk gs) := fun E T hK => PS.imp (h1 hK) fun Dn σ H ⟨Hs₀, H₀, ρ, Hs, out, s, ef, k⟩ => by
  unfold xOk at ef
  cases q : gs ρ with
  | none => rw [q] at ef; cases ef
  | some o => rw [q] at ef; cases ef; exact ⟨Hs₀, H₀, ρ, Hs, o, s, q, k⟩
theorem pxs_lift (h1 : PFSs X K sts gs) : PFXs X K sts (xOk gs) := fun E T hK => PSs.imp (h1 hK) fun Dn σ H ⟨Hs₀, H₀, ρ, Hs, out, s, ef, k⟩ => by
  unfold xOk at ef
  cases q : gs ρ with
  | none => rw [q] at ef; cases ef
  | some o => rw [q] at ef; cases ef; exact ⟨Hs₀, H₀, ρ, Hs, o, s, q, k⟩
theorem pxs_cons (h1 : PFX X K st g) (h2 : PFXs X K sts h) : PFXs X K (st :: sts) (xSeq g h) := fun E T hK => PSs.imp (pss_cons (h1 E T hK) (h2 E T hK)) fun Dn σ H ⟨Hs₀, H₀, ρ, Hs, out, s, ef, k⟩ => by
  obtain ⟨o, e1, e2⟩ := bind1 ef
  refine ⟨Hs₀, H₀, ρ, Hs, o, s, e1, ?_⟩
  match o, e2 with
  | .xr C, e2 => cases e2; exact k
  | .ok (.rt d), e2 => cases e2; exact k
  | .ok (.nx ρ'), e2 => exact fun σ' H' Hs' s' q => ⟨Hs₀, H₀, ρ', Hs', out, s', e2, k.weak q⟩
theorem pxs_one (h1 : PFX X K st g) : PFXs X K [st] g := fun E T hK => pss_one (h1 E T hK)
theorem pxs_nil : PFXs X K [] (xOk gNext) := pxs_lift pss_nilF
theorem px_if {sa sb : List Stmt} (hc : PFT X K c t) (ha : PFXs X K sa g) (hb : PFXs X K sb h) : PFX X K (.If c sa sb pos) (xIf t g h) := fun E T hK => PS.imp (ps_if (hc hK) (ha E T hK) (hb E T hK)) fun Dn σ H ⟨Hs₀, H₀, ρ, Hs, out, s, ef, k⟩ => by
  obtain ⟨b, e1, e2⟩ := bind1 ef
  refine ⟨ρ, Hs, b, s.st, e1, fun H' Hs' gr => ?_⟩
  cases b with
  | true => rw [if_pos rfl] at e2 ⊢; exact ⟨Hs₀, H₀, ρ, Hs', out, s.grow gr, e2, k.weak gr.hs⟩
  | false => rw [if_neg Bool.false_ne_true] at e2 ⊢; exact ⟨Hs₀, H₀, ρ, Hs', out, s.grow gr, e2, k.weak gr.hs⟩
theorem px_for {tg iter : Expr} {fi : Fi} {ft : Ft} (hc : X.calm = true) (hi : PFI X K tg iter fi) (hg : PFG X K tg ft) (hb : PFXs X K body g)
    (hs : ∀ x, foldedSetIterable iter X.env x = pure x := by intro _; rfl) : PFX X K (.For tg iter body [] pos) (xFor fi ft g) := fun E T hK => by
  refine PS.imp (ps_for T.own hc (hi hK) (hg hK) (hb E T hK) hs) fun Dn σ H ⟨Hs₀, H₀, ρ, Hs, out, s, ef, k⟩ => ?_
  obtain ⟨ds, e1, e2⟩ := bind1 ef
  refine ⟨ρ, Hs, ds, s.st, e1, fun J H1 Hs1 g1 it => ?_⟩
  refine ⟨fun i m σ H => ∃ ρ Hs, St1 K Hs₀ H₀ Hs H ρ σ ∧ Same Hs1 Hs ∧ m = ds.length - i ∧ i ≤ ds.length ∧ loopX ft g (ds.drop i) ρ = some out, ⟨_, ρ, Hs1, s.grow g1, Same.refl _, rfl, Nat.zero_le _, e2⟩, ?_⟩
  rintro i m σ2 H2 ⟨ρ2, Hs2, s2, sm, rfl, hi, e3⟩
  obtain ⟨go, stop⟩ := it i Hs2 H2 sm s2.st.sub
  by_cases hlt : i < ds.length
  · right
    have hd : ds[i]? = some ds[i] := by simp [hlt]
    obtain ⟨go1, yl⟩ := go _ hd
    rw [List.drop_eq_getElem_cons hlt] at e3
    obtain ⟨ρ3, e4, e5⟩ := bind1 e3
    obtain ⟨o, e6, e7⟩ := bind1 e5
    refine ⟨go1, fun σ' H' => ∃ ρ' Hs', St1 K Hs₀ H₀ Hs' H' ρ' σ' ∧ Same Hs1 Hs' ∧ loopX ft g (ds.drop (i + 1)) ρ' = some out, fun σ' H' ⟨ρ', Hs', s', sm', q⟩ => ⟨ds.length - (i + 1), by lia, ρ', Hs', s', sm', rfl, hlt, q⟩, fun x H' y => ?_⟩
    obtain ⟨Hs3, g3, r3⟩ := yl x H' y
    refine ⟨ρ2, Hs3, _, ρ3, (s2.grow g3).st, r3, e4, fun σ4 H4 Hs4 g4 _ up _ => ?_⟩
    refine ⟨Hs₀, H₀, ρ3, Hs4, o, up _ _ (s2.grow g3), e6, ?_⟩
    match o, e7 with
    | .xr C, e7 => cases e7; exact k
    | .ok (.rt d), e7 => cases e7; exact k
    | .ok (.nx ρ5), e7 => exact fun σ5 H5 Hs5 s5 q => ⟨ρ5, Hs5, s5, (sm.trans (g3.hs.trans g4.hs)).trans q, e7⟩
  · left
    have hi' : i = ds.length := by lia
    subst hi'
    rw [List.drop_length] at e3
    cases e3
    exact ⟨stop (Nat.le_refl _), k _ _ _ s2 (g1.hs.trans sm)⟩
noncomputable abbrev Fj := Rho → Option Nat
noncomputable def PJ (X : Cx) (K : PySem.W.Frag) (es : List Expr) (fj : Fj) : Prop := X.K = K → ∀ (pins : List (Addr × Obj)) (s : Shared) (σ : L2.St) (H : Hp) (acc : Str) (ρ : Rho) (Hs : Hp) (n : Nat) (Q : Value → Shared → Prop), Inv X pins σ H s → StE K Hs H ρ σ → fj ρ = some n → acc.length + n ≤ sizeLine →
  (∀ x t s' H' Hs', Grow Hs H Hs' H' → Inv X pins σ H' s' → Q (.str x t) s') → wpAny (model X.prog X.w) X.A (joinParts acc (evalEach es X.env)) Q X.xe s
noncomputable def jNil : Fj := fun _ => some 0
noncomputable def jLit (l : Nat) (fj : Fj) : Fj := fun ρ => (fj ρ).map (l + ·)
noncomputable def jInt (f : Fe) (fj : Fj) : Fj := fun ρ => match f ρ with
  | some (.int i) => if -(2 ^ 62) ≤ i ∧ i < 2 ^ 62 then (fj ρ).map (70 + ·) else none
  | _ => none
noncomputable def jStr (f : Fe) (fj : Fj) : Fj := fun ρ => match f ρ with
  | some (.str x) => (fj ρ).map (x.length + ·)
  | _ => none
variable {fj : Fj}
theorem pj_nil : PJ X K [] jNil := fun hK pins s σ H acc ρ Hs n Q I st ef hl k => by
  cases ef
  exact joinParts_nil (k _ _ _ H Hs (Grow.refl st.sub) (I.tok _)) (by simpa using hl)
theorem len_app (a b : Str) : (a ++ b).length = a.length + b.length := strLen_append a b
theorem pj_lit {x : Str} {p : Pos} {j' : Nat} (h1 : PJ X K es fj) : PJ X K (.Constant (.str x) j' p :: es) (jLit x.length fj) := fun hK pins s σ H acc ρ Hs n Q I st ef hl k => by
  unfold jLit at ef
  cases q : fj ρ with
  | none => rw [q] at ef; cases ef
  | some m =>
    rw [q] at ef
    cases ef
    refine joinParts_cons (wpAny_mono (pe_str (X := X) pins s σ H (fun v H' => v = .str x ∧ H' = H) I ⟨rfl, rfl⟩) (fun u s1 ⟨v, H1, I1, r, e1, e2⟩ => ?_) fun _ _ z => z)
    subst e1 e2
    obtain ⟨t, rfl⟩ := r
    exact ⟨by rw [len_app]; lia, h1 hK pins s1 σ H1 _ ρ Hs m Q I1 st q (by rw [len_app]; lia) k⟩
theorem pj_int {p : Pos} (he : PF X K e f) (h1 : PJ X K es fj) : PJ X K (.FormattedValue e (-1) none p :: es) (jInt f fj) := fun hK pins s σ H acc ρ Hs n Q I st ef hl k => by
  unfold jInt at ef
  split at ef
  · rename_i i qi
    split at ef
    · rename_i hi
      cases q : fj ρ with
      | none => rw [q] at ef; cases ef
      | some m =>
        rw [q] at ef
        cases ef
        refine joinParts_cons (FormattedValue_plain (wpAny_mono (he hK pins s σ H (fun v H' => ∃ Hs', Grow Hs H Hs' H' ∧ v = .int i) I ⟨ρ, Hs, _, st, qi, fun v H' Hs' g r => by cases r; exact ⟨Hs', g, rfl⟩⟩) (fun u s1 ⟨v, H1, I1, r, Hs1, g1, e1⟩ => ?_) fun _ _ z => z))
        subst e1
        obtain ⟨t, rfl⟩ := r
        have hb : i.natAbs < 2 ^ 63 := by lia
        have hlog : i.natAbs.log2 < 63 := by
          rcases Nat.eq_zero_or_pos i.natAbs with z | z
          · rw [z]; decide
          · exact (Nat.log2_lt (by lia)).mpr hb
        refine formatField_int_small (by lia) ?_
        have hlen : (Str.ofString (toString i)).length ≤ 70 := by
          have := int_text_length_le (k := 63) (by decide) hlog
          rw [PySem.ofString_length]; lia
        have hlen' : (toString i : Str).length ≤ 70 := hlen
        refine ⟨by rw [len_app]; lia, h1 hK pins _ σ H1 _ ρ Hs1 m Q (I1.tok _) (st.grow g1) q (by rw [len_app]; lia) fun x t s' H' Hs' g => k x t s' H' Hs' (g1.trans g)⟩
    · cases ef
  · cases ef
theorem pj_str {p : Pos} (he : PF X K e f) (h1 : PJ X K es fj) : PJ X K (.FormattedValue e (-1) none p :: es) (jStr f fj) := fun hK pins s σ H acc ρ Hs n Q I st ef hl k => by
  unfold jStr at ef
  split at ef
  · rename_i x qi
    cases q : fj ρ with
    | none => rw [q] at ef; cases ef
    | some m =>
      rw [q] at ef
      cases ef
      refine joinParts_cons (FormattedValue_plain (wpAny_mono (he hK pins s σ H (fun v H' => ∃ Hs', Grow Hs H Hs' H' ∧ v = .str x) I ⟨ρ, Hs, _, st, qi, fun v H' Hs' g r => by cases r; exact ⟨Hs', g, rfl⟩⟩) (fun u s1 ⟨v, H1, I1, r, Hs1, g1, e1⟩ => ?_) fun _ _ z => z))
      subst e1
      obtain ⟨t, rfl⟩ := r
      refine formatField_str (fun t' tk => ?_) (by lia)
      refine ⟨by rw [len_app]; lia, h1 hK pins _ σ H1 _ ρ Hs1 m Q (I1.tok _) (st.grow g1) q (by rw [len_app]; lia) fun x t s' H' Hs' g => k x t s' H' Hs' (g1.trans g)⟩
  · cases ef
theorem px_raise {C : Addr} {x : Str} {bmB : List Value} {Bn newId initId : String} {np cpos jpos : Pos} {v₁ v₂ : Expr} (O : OwnCls x C bmB newId X.mg X.base) (FB : ExcBaseFacts Bn newId initId bmB) (hc : X.calm = true) (hg : Gl X x) (hj : PJ X K (v₁ :: v₂ :: es) fj)
    (hd : (x == ("__debug__" : Str)) = false := by decide) (he : starEach [.JoinedStr (v₁ :: v₂ :: es) jpos] X.env = [(false, eval (.JoinedStr (v₁ :: v₂ :: es) jpos) X.env)] := by rfl) :
    PFX X K (.Raise (some (.Call (.Name x np) [.JoinedStr (v₁ :: v₂ :: es) jpos] [] cpos)) none pos) (xRaise C fj) := fun E T hK => by
  have hp : PE X (.JoinedStr (v₁ :: v₂ :: es) jpos) (fun σ H Q => ∃ ρ Hs n, StE K Hs H ρ σ ∧ fj ρ = some n ∧ n ≤ sizeLine ∧ ∀ x H' Hs', Grow Hs H Hs' H' → Q (.str x) H') := fun pins s σ H Q I ⟨ρ, Hs, n, st, ef, hl, k⟩ =>
    JoinedStr_many (hj hK pins s σ H Str.empty ρ Hs n _ I st ef (by show 0 + n ≤ _; lia) fun x t s' H' Hs' g I' => ⟨.str x, H', I', ⟨t, rfl⟩, k x H' Hs' g⟩)
  refine PS.imp (ps_raise T O FB hc hg (pa_cons hp pa_nil he) hd he rfl) fun Dn σ H ⟨Hs₀, H₀, ρ, Hs, out, s, ef, k⟩ => ?_
  obtain ⟨n, e1, e2⟩ := bind1 ef
  split at e2
  · rename_i hn
    cases e2
    exact ⟨ρ, Hs, n, s.st, e1, hn, fun x H' Hs' g => ⟨by show 1 ≤ sizeLine; decide, k H' Hs' (s.gr.trans g)⟩⟩
  · cases e2
end
noncomputable def rEnd (K : PySem.W.Frag) (Hs H : Hp) (Q : VK) (E : XK) : Rx → Prop
  | .val d => ∀ v H' Hs', Grow Hs H Hs' H' → Rep K Hs' d v → Q v H'
  | .xr C => ∀ H' Hs', Grow Hs H Hs' H' → E (.ref C) none H'
noncomputable def spX (K : PySem.W.Frag) (F : List D → Option Rx) : Sp := fun vs H Q E => ∃ Hs ds r, Same Hs H ∧ Reps K Hs ds vs ∧ F ds = some r ∧ rEnd K Hs H Q E r
structure Dx (P : Program) (w : World) (K : PySem.W.Frag) (mg : Str → Option Value) (base : Heap) (k : Nat) (x : Str) (ps : List Str) (F : List D → Option Rx) : Prop where
  ex : ∃ (f : Addr) (fd : FuncData), mg x = some (.ref f) ∧ PySem.W.keepIn K (.ref f) = true ∧ Binds K fd ps [] ∧ FnOk P w K mg base (CX1 P w) k f fd ps (spX K F)
theorem Dx.mono {P : Program} {w : World} {K : PySem.W.Frag} {mg : Str → Option Value} {base : Heap} {j k : Nat} {x : Str} {ps : List Str} {F : List D → Option Rx} (d : Dx P w K mg base j x ps F) (h : j ≤ k) : Dx P w K mg base k x ps F :=
  let ⟨f, fd, h1, h2, h3, h4⟩ := d.ex; ⟨f, fd, h1, h2, h3, h4.mono h⟩
noncomputable def runX (g : Fx) (ρ : Rho) : Option Rx := match g ρ with
  | some (.ok (.rt d)) => some (.val d)
  | some (.ok (.nx _)) => some (.val .non)
  | some (.xr C) => some (.xr C)
  | none => none
section
variable {P : Program} {w : World} {K : PySem.W.Frag} {mg : Str → Option Value} {base : Heap}
theorem fn_X {x qual : Str} {st : Stmt} {f : Addr} {fd : FuncData} {N ps : List Str} {k : Nat} {F : List D → Option Rx} {g : Fx} (U : Fun K x qual st f fd) (S : FnScope N ps (defScope st)) (hlen : ∀ ds d, F ds = some d → ds.length = ps.length)
    (hbody : ∀ (cdv : Value) (A : Around) (outer : List Env) (s : Shared) (H : Hp) (E : XK), Room k (A.deeper (PyProof.Rows.envOfC qual (defScope st) s.heap.objs.size f cdv)) →
      PFXs (cxOf (CX1 P w) P w K mg base N qual (defScope st) f cdv A outer s H E) K (defBody st) g)
    (hF : ∀ ds d, F ds = some d → runX g (startR N ds) = some d) : FnOk P w K mg base (CX1 P w) (k + 1) f fd ps (spX K F) := by
  have hpl : ps.length ≤ N.length := by have := congrArg List.length S.pre; rw [List.length_take] at this; lia
  obtain ⟨oc, od, kV, doc, pm, an, cdv, ct, osl, rfl, lk, hcd⟩ := U.ex
  refine fn_of lk hcd S (fun vs H Q E ⟨Hs, ds, d, s, r, e, q⟩ => by rw [← r.length]; exact hlen ds d e) fun A outer s H vs Q E hr ⟨Hs, ds, d, sm, r, e, q⟩ => ?_
  refine ⟨_, hbody cdv A outer s H E hr E thr_cx rfl, ?_⟩
  have e2 := hF ds d e
  have hl := hlen ds d e
  unfold runX at e2
  have s0 : St1 K Hs H Hs H (startR N ds) (L2.start N vs) := start_st sm r (by lia)
  split at e2
  · rename_i d' q1
    cases e2
    exact ⟨Hs, H, _, Hs, _, s0, q1, fun v H' Hs' g rv => q v H' Hs' g rv⟩
  · rename_i ρ' q1
    cases e2
    exact ⟨Hs, H, _, Hs, _, s0, q1, fun σ' H' Hs' s' _ => q _ H' Hs' s'.gr .non⟩
  · rename_i C' q1
    cases e2
    exact ⟨Hs, H, _, Hs, _, s0, q1, fun H' Hs' g => q H' Hs' g⟩
  · cases e2
theorem dx_F {x : Str} {st : Stmt} {f : Addr} {fd : FuncData} {N ps : List Str} {k : Nat} {F : List D → Option Rx} {g : Fx} (hm : mg x = some (.ref f)) (U : Fun K x x st f fd) (hb : Binds K fd ps []) (S : FnScope N ps (defScope st)) (hlen : ∀ ds d, F ds = some d → ds.length = ps.length)
    (hbody : ∀ (cdv : Value) (A : Around) (outer : List Env) (s : Shared) (H : Hp) (E : XK), Room k (A.deeper (PyProof.Rows.envOfC x (defScope st) s.heap.objs.size f cdv)) →
      PFXs (cxOf (CX1 P w) P w K mg base N x (defScope st) f cdv A outer s H E) K (defBody st) g)
    (hF : ∀ ds d, F ds = some d → runX g (startR N ds) = some d) : Dx P w K mg base (k + 1) x ps F :=
  ⟨f, fd, hm, U.kp, hb, fn_X U S hlen hbody hF⟩
end
section
variable {X : Cx} {K : PySem.W.Frag} {e : Expr} {es : List Expr} {pos : Pos} {as : Rho → Option (List D)}
theorem px_call {k : Nat} {x : Str} {ps : List Str} {F : List D → Option Rx} {p pos' : Pos} (hd : Dx X.prog X.w K X.mg X.base k x ps F) (hr : Room k X.A) (hg : Gl X x) (ha : PFA X K (e :: es) as)
    (hdb : (x == ("__debug__" : Str)) = false := by decide) (he : starEach (e :: es) X.env = (false, eval e X.env) :: starEach es X.env := by rfl) (hpl : (backTo pos (starEach es X.env)).any (·.1) = false := by rfl)
    (hs : swapsWith (.Call (.Name x p) (e :: es) [] pos) none pos'.line X.env = pure false := by rfl) :
    PFX X K (.Expr (.Call (.Name x p) (e :: es) [] pos) pos') (xCall F as) := fun E T hK => by
  subst hK
  obtain ⟨fa, fd, h1, h2, h3, h4⟩ := hd.ex
  refine PS.imp (ps_expr (pe_call h4 hr hg h1 h2 h3 .nil T.pas (ha rfl) hdb he hpl) hs) fun Dn σ H ⟨Hs₀, H₀, ρ, Hs, out, s, ef, k⟩ => ?_
  obtain ⟨ds, e1, e2⟩ := bind1 ef
  obtain ⟨r, e3, e4⟩ := bind1 e2
  refine ⟨ρ, Hs, ds, s.st, e1, fun vs H' Hs' g rv => ?_⟩
  show spX X.K F (vs ++ []) H' _ E
  rw [List.append_nil]
  refine ⟨Hs', ds, r, g.sub, rv, e3, ?_⟩
  cases r with
  | val d => cases e4; exact fun v H2 Hs2 g2 _ => k _ H2 Hs2 (s.grow (g.trans g2)) (g.trans g2).hs
  | xr C => cases e4; exact fun H2 Hs2 g2 => k H2 Hs2 (s.gr.trans (g.trans g2))
end
end DL
set_option maxHeartbeats 4000000
namespace PySem.W
open PySem PySem.Spec PySem.Calls PyProof.Rows Builtin Builtin.ObjectAttr Builtin.Getset_descriptor
structure ExcKit (K : Frag) (C : Addr) : Prop where
  ga : findIn K (.ref C) "__getattribute__" = some (some (.builtin "BaseException.__getattribute__"))
  gh : findIn K (.ref C) "__getattr__" = some none
  cl : findIn K (.ref C) "__class__" = some (some (.builtin "object.__class__"))
  mb : mroIn K C (.type "BaseException") = some true
  mo : mroIn K C (.type "object") = some true
  ic : (clsIn K C).isSome = true
section
variable {prog : Program} {w : World} {A : Around} {E : Value → Shared → Prop} {h : Heap} {g : Array GenState} {d : Drawn} {t : Nat} {os : OsState} {a C : Addr} {o : Obj} {K : Frag}
theorem exc_get {tp : Value} {R : Result → Shared → Prop} (Z : ExcKit K C) (X : K.In h) (hx : h.get? a = some o) (hc : o.cls = .ref C) (hq : R (.ok (.ret (.ref C))) ⟨h, g, d, t, os⟩) :
    codeAny (model prog w) A (.call (.builtin "getset_descriptor.__get__") ⟨[.builtin "object.__class__", .ref a, tp], []⟩) R ⟨h, g, d, t, os⟩ := by
  have L0 : Looks (model prog w) h (typeOf (.ref a)) (.ref C) := by rw [← hc]; exact (Looks.ld hx).andThen .now
  have L1 := looks_mroIn (M := model prog w) X Z.mo
  refine codeAny_call_builtin KF.slot_gs.plain KF.entry_gs (KF.slot_gs.check _ _ _ _ _ _ _ _ KF.type_class (KF.args_gs _ _ _) ?_)
  unfold Builtin.«getset_descriptor.__get__» descrGet
  rw [dga_obj]
  refine wpAny_bind (wpAny_pure ?_)
  unfold descrGetter descrCheckInstance descrNameAndClass isInstance
  simp only [KF.owner_class]
  repeat lk
  refine ⟨Code.quiet_builtin _ (by decide +kernel), codeAny_builtin KF.entry_class ?_⟩
  unfold Builtin.«object.__class__» shownTypeOf
  repeat lk
  exact hq
theorem exc_entry {tk : Tok} {Q : Fin → Shared → Prop} (Z : ExcKit K C) (X : K.In h) (hx : h.get? a = some o) (hc : o.cls = .ref C) (hq : Q (.done (.ret (.ref C))) ⟨h, g, d, t, os⟩) :
    wpAny (model prog w) A (Builtin.«object.__getattribute__» ⟨[.ref a, .str "__class__" tk], []⟩) Q E ⟨h, g, d, t, os⟩ := by
  have L0 : Looks (model prog w) h (typeOf (.ref a)) (.ref C) := by rw [← hc]; exact (Looks.ld hx).andThen .now
  have L1 := looks_findIn (M := model prog w) X Z.cl
  have f6 := F.slot_gs_get.lookup
  have f7 := F.slot_gs_set.lookup
  have f5 : typeOf (.builtin "object.__class__") = pure (.type "getset_descriptor") := by kernel_rfl
  have hT5 : (⟨h, g, d, t, os⟩ : Shared).TypeIs (.builtin "object.__class__") "getset_descriptor" := f5
  repeat (any_goals (first | assumption | with_reducible refine Looks.at L0 ?_ | with_reducible refine Looks.at L1 ?_ | (with_reducible refine wpAny_loadPart_at hx ?_; rw [hc]) | wp_step))
  refine exc_get Z X hx hc ?_
  repeat (any_goals (first | assumption | wp_step))
theorem exc_check {M : Model} {nameV : Value} {Q : Unit → Shared → Prop} (Z : ExcKit K C) (X : K.In h) (hx : h.get? a = some o) (hc : o.cls = .ref C) (hq : Q () ⟨h, g, d, t, os⟩) :
    wpAny M A (checkBuiltinCall "BaseException.__getattribute__" ⟨[.ref a, nameV], []⟩) Q E ⟨h, g, d, t, os⟩ := by
  have hk : builtinKind "BaseException.__getattribute__" = some .slot := by decide +kernel
  have hsplit : splitId "BaseException.__getattribute__" = some ("BaseException", "__getattribute__") := by decide +kernel
  have L0 : Looks M h (typeOf (.ref a)) (.ref C) := by rw [← hc]; exact (Looks.ld hx).andThen .now
  have L1 := looks_mroIn (M := M) X Z.mb
  have LI : Looks M h (isInstance (.ref a) (.type "BaseException")) true := L0.andThen L1
  have ha := F.args_bexc_ga (.ref a) nameV
  simp only [checkBuiltinCall, hk, hsplit]
  refine wpAny_bind (LI.at ?_)
  repeat (first | wp_step)
  exact hq
theorem exc_call {tk : Tok} {R : Result → Shared → Prop} (Z : ExcKit K C) (X : K.In h) (hx : h.get? a = some o) (hc : o.cls = .ref C) (hq : R (.ok (.ret (.ref C))) ⟨h, g, d, t, os⟩) :
    codeAny (model prog w) A (.call (.builtin "BaseException.__getattribute__") ⟨[.ref a, .str "__class__" tk], []⟩) R ⟨h, g, d, t, os⟩ :=
  codeAny_call_builtin PySem.F.attr_ValueError.ga.plain F.entry_bexc_ga (exc_check Z X hx hc (exc_entry Z X hx hc hq))
theorem exc_by {tk : Tok} {fill expr : Bool} {Q : Value → Shared → Prop} (Z : ExcKit K C) (X : K.In h) (hx : h.get? a = some o) (hc : o.cls = .ref C) (hq : Q (.ref C) ⟨h, g, d, t, os⟩) :
    wpAny (model prog w) A (getAttrBy (.ref a) (.str "__class__" tk) fill expr) Q E ⟨h, g, d, t, os⟩ := by
  have f3 := PySem.F.attr_ValueError.ga.bind (.ref a)
  have L0 : Looks (model prog w) h (typeOf (.ref a)) (.ref C) := by rw [← hc]; exact (Looks.ld hx).andThen .now
  have L1 := looks_findIn (M := model prog w) X Z.ga
  have L2 := looks_findIn (M := model prog w) X Z.gh
  have hx0 : (expr && onTheHeap (Value.builtin "BaseException.__getattribute__")) = false := by cases expr <;> rfl
  have hx2 : (Value.builtin "BaseException.__getattribute__" == Value.builtin "object.__getattribute__") = false := by decide +kernel
  have hx1 : (onTheHeap (Value.ref C) && Value.builtin "BaseException.__getattribute__" == Value.builtin "object.__getattribute__") = false := by rw [hx2]; rfl
  repeat (any_goals (first | assumption | with_reducible refine Looks.at L0 ?_ | with_reducible refine Looks.at L1 ?_ | with_reducible refine Looks.at L2 ?_ | (with_reducible refine wpAny_loadPart_at hx ?_; rw [hc]) | wp_step))
  refine exc_call Z X hx hc ?_
  repeat (any_goals (first | assumption | wp_step))
theorem exc_class {Q : Option Value → Shared → Prop} (Z : ExcKit K C) (X : K.In h) (hx : h.get? a = some o) (hc : o.cls = .ref C) (hq : Q (some (.ref C)) ⟨h, g, d, t + 1, os⟩) :
    wpAny (model prog w) A (getAttr? (.ref a) "__class__") Q E ⟨h, g, d, t, os⟩ := by
  unfold getAttr? getAttrBy?
  refine wpAny_bind (wpAny_mkText (wpAny_bind (wpAny_attempt (exc_by Z X hx hc (wpAny_pure hq)))))
theorem kitx_exc (Z : ExcKit K C) : KitX K (.ref a) (.ref C) (DL.excAt a C) where
  ty := fun M h X ⟨o, e, hc⟩ => by rw [← hc]; exact (Looks.ld e).andThen .now
  it := fun M h X _ => by
    obtain ⟨cd, hcD⟩ := Option.isSome_iff_exists.mp Z.ic
    unfold clsIn at hcD
    split at hcD
    · rename_i c' d' cd' sl' ho
      intro A' Q' E' s' k q
      unfold isType loadHead
      exact wpAny_bind (wpAny_loadPart (k _ _ (X _ _ ho)) (wpAny_pure q))
    · cases hcD
  ne := fun h tp dd its n sl X htp => by
    obtain ⟨cd, hcD⟩ := Option.isSome_iff_exists.mp Z.ic
    refine Bool.eq_false_iff.mpr fun q => ?_
    have e : C = tp := Value.ref.inj (beq_iff_eq.mp q)
    subst e
    unfold clsIn at hcD
    split at hcD
    · rename_i c' d' cd' sl' ho
      have z := (X _ _ ho).symm.trans htp
      cases z
    · cases hcD
  ca := fun {prog w A E Q s} X ⟨o, e, hc⟩ k => by
    obtain ⟨h, g, d, t, os⟩ := s
    exact exc_class Z X e hc k
end
end PySem.W
set_option maxHeartbeats 4000000
namespace DL
open PySem PySem.Spec L2 PyProof.Rows
structure IsK (K : PySem.W.Frag) (cs : List Value) (C : Addr) (bn be : Bool) : Prop where
  hn : PySem.W.kitAny K (.type "NoneType") cs = some bn
  he : PySem.W.kitAny K (.ref C) cs = some be
  kit : PySem.W.ExcKit K C
theorem kitAny_one {K : PySem.W.Frag} {t c : Value} {b : Bool} (h : PySem.W.kitAny K t [c] = some b) : PySem.W.kitOne K t c = some b := by
  unfold PySem.W.kitAny at h
  split at h
  · rename_i q; cases h; exact q
  · rename_i q; rw [q]; exact h
  · cases h
noncomputable def gAns (C : Addr) (bn be : Bool) : D → Option D
  | .non => some (.bl bn)
  | .exc C' => if C' = C then some (.bl be) else none
  | _ => none
section
variable {X : Cx} {K : PySem.W.Frag} {a : Expr} {f : Fe} {C : Addr} {bn be : Bool} {px p2 pos : Pos}
theorem isi_one {pins : List (Addr × Obj)} {σ : L2.St} {H : Hp} {s : Shared} {c u : Value} {y : V} {b : Bool} {d : D} {A : Around} {E : Value → Shared → Prop} {Q : Value → Shared → Prop} {Hs : Hp} (I : Inv X pins σ H s) (hk : IsK X.K [c] C bn be) (sm : Same Hs H) (r : Rep X.K Hs d y) (rv : RelV y u)
    (e : gAns C bn be d = some (.bl b)) (h : ∀ tk, Q (.bool b) { s with toks := tk }) : wpAny (model X.prog X.w) A (call (.builtin "isinstance") [u, c]) Q E s := by
  cases r with
  | non =>
    cases e
    cases (show u = Value.none from rv)
    exact PySem.W.kia_one PySem.W.kitx_none I.kIn True.intro (kitAny_one hk.hn) (fun z => nomatch z) h
  | @exc a C' hx =>
    have e' : (if C' = C then some (D.bl be) else none) = some (.bl b) := e
    split at e'
    · rename_i q
      cases e'
      subst q
      cases (show u = Value.ref a from rv)
      obtain ⟨p, _, _⟩ := I.hok a _ (sm _ _ hx)
      exact PySem.W.kia_one (PySem.W.kitx_exc hk.kit) I.kIn p (kitAny_one hk.he) (fun z => nomatch z) h
    · cases e'
  | _ => cases e
theorem isi_tup {pins : List (Addr × Obj)} {σ : L2.St} {H : Hp} {s : Shared} {u : Value} {cs : List Value} {vs : List V} {tp : Addr} {y : V} {b : Bool} {d : D} {A : Around} {E : Value → Shared → Prop} {Q : Value → Shared → Prop} {Hs : Hp} (I : Inv X pins σ H s) (hk : IsK X.K cs C bn be) (sm : Same Hs H) (r : Rep X.K Hs d y) (rv : RelV y u)
    (ht : H tp = some (.tup vs)) (hvs : ∀ us, Vals vs us → us = cs) (e : gAns C bn be d = some (.bl b)) (h : ∀ tk, Q (.bool b) { s with toks := tk }) : wpAny (model X.prog X.w) A (call (.builtin "isinstance") [u, .ref tp]) Q E s := by
  obtain ⟨_, its, rr, ⟨oc, od, odt, osl⟩, e1, e2, e3⟩ := I.hok tp _ ht
  have := hvs its rr
  subst this
  obtain ⟨n, e3⟩ := e3
  dsimp only at e2 e3
  subst e2 e3
  cases r with
  | non =>
    cases e
    cases (show u = Value.none from rv)
    exact PySem.W.kia_tup PySem.W.kitx_none I.kIn True.intro e1 hk.hn (fun z => nomatch z) h
  | @exc a C' hx =>
    have e' : (if C' = C then some (D.bl be) else none) = some (.bl b) := e
    split at e'
    · rename_i q
      cases e'
      subst q
      cases (show u = Value.ref a from rv)
      obtain ⟨p, _, _⟩ := I.hok a _ (sm _ _ hx)
      exact PySem.W.kia_tup (PySem.W.kitx_exc hk.kit) I.kIn p e1 hk.he (fun z => nomatch z) h
    · cases e'
  | _ => cases e
theorem gAns_bl {d z : D} (e : gAns C bn be d = some z) : ∃ b, z = .bl b := by
  unfold gAns at e
  split at e
  · cases e; exact ⟨_, rfl⟩
  · split at e
    · cases e; exact ⟨_, rfl⟩
    · cases e
  · cases e
theorem pf_instX {x : Str} {c : Value} {v : V} (hk : IsK K [c] C bn be) (hg : Gl X "isinstance") (hm : X.mg "isinstance" = none) (hx : PE X (.Name x p2) (tC v)) (hv : ∀ u, RelV v u → u = c) (ha : PF X K a f)
    (hs : starEach [a, .Name x p2] X.env = (false, eval a X.env) :: starEach [.Name x p2] X.env := by rfl) (hs2 : starEach [.Name x p2] X.env = (false, eval (.Name x p2) X.env) :: starEach [] X.env := by rfl) (hpl : (backTo pos (starEach [.Name x p2] X.env)).any (·.1) = false := by rfl) :
    PF X K (.Call (.Name "isinstance" px) [a, .Name x p2] [] pos) (f1 (gAns C bn be) f) := fun hK => by
  subst hK
  have cr : CallR X (.builtin "isinstance") (fun xs H Q => ∃ y d b Hs, xs = [y, v] ∧ Same Hs H ∧ Rep X.K Hs d y ∧ gAns C bn be d = some (.bl b) ∧ Q (.bl b) H) := by
    intro pins s σ H xs us Q I r h
    obtain ⟨y, d, b, Hs, rfl, sm, rp, e, q⟩ := h
    obtain ⟨u, w', rfl, r1, r2⟩ := vals2 r
    obtain rfl := hv _ r2
    exact isi_one I hk sm rp r1 e fun tk => ⟨.bl b, H, I.tok tk, rfl, q⟩
  refine PE.imp (pe_callB cr hg hm PyProof.Rows.boot_isinstance (pa_cons (ha rfl) (pa_cons hx pa_nil hs2) hs) (by decide) (by decide) hs hpl) fun σ H Q ⟨ρ, Hs, d, st, ef, k⟩ => ?_
  obtain ⟨y, e1, e2⟩ := bind1 ef
  obtain ⟨b, rfl⟩ := gAns_bl e2
  exact ⟨ρ, Hs, y, st, e1, fun v' H' Hs' g r => ⟨v', y, b, Hs', rfl, g.sub, r, e2, k _ H' Hs' g (.bl _)⟩⟩
theorem pf_instX2 {x1 x2 : Str} {C1 C2 : Addr} {p1 p3 tpos : Pos} {kk : Nat} (hk : IsK K [.ref C1, .ref C2] C bn be) (hg : Gl X "isinstance") (hm : X.mg "isinstance" = none) (hx1 : PE X (.Name x1 p1) (tC (.ref C1))) (hx2 : PE X (.Name x2 p3) (tC (.ref C2))) (ha : PF X K a f)
    (hs : starEach [a, .Tuple [.Name x1 p1, .Name x2 p3] kk tpos] X.env = (false, eval a X.env) :: starEach [.Tuple [.Name x1 p1, .Name x2 p3] kk tpos] X.env := by rfl) (hs2 : starEach [.Tuple [.Name x1 p1, .Name x2 p3] kk tpos] X.env = (false, eval (.Tuple [.Name x1 p1, .Name x2 p3] kk tpos) X.env) :: starEach [] X.env := by rfl)
    (hs3 : starEach [.Name x1 p1, .Name x2 p3] X.env = (false, eval (.Name x1 p1) X.env) :: starEach [.Name x2 p3] X.env := by rfl) (hs4 : starEach [.Name x2 p3] X.env = (false, eval (.Name x2 p3) X.env) :: starEach [] X.env := by rfl)
    (hpl : (backTo pos (starEach [.Tuple [.Name x1 p1, .Name x2 p3] kk tpos] X.env)).any (·.1) = false := by rfl) :
    PF X K (.Call (.Name "isinstance" px) [a, .Tuple [.Name x1 p1, .Name x2 p3] kk tpos] [] pos) (f1 (gAns C bn be) f) := fun hK => by
  subst hK
  have cr : CallR X (.builtin "isinstance") (fun xs H Q => ∃ y d b Hs tp, xs = [y, .ref tp] ∧ Same Hs H ∧ Rep X.K Hs d y ∧ gAns C bn be d = some (.bl b) ∧ H tp = some (.tup [.ref C1, .ref C2]) ∧ Q (.bl b) H) := by
    intro pins s σ H xs us Q I r h
    obtain ⟨y, d, b, Hs, tp, rfl, sm, rp, e, ht, q⟩ := h
    obtain ⟨u, w', rfl, r1, r2⟩ := vals2 r
    cases (show w' = Value.ref tp from r2)
    refine isi_tup I hk sm rp r1 ht (fun us r => ?_) e fun tk => ⟨.bl b, H, I.tok tk, rfl, q⟩
    obtain ⟨a1, a2, rfl, q1, q2⟩ := vals2 r
    rw [show a1 = Value.ref C1 from q1, show a2 = Value.ref C2 from q2]
  refine PE.imp (pe_callB cr hg hm PyProof.Rows.boot_isinstance (pa_cons (ha rfl) (pa_cons (pe_tup (pa_cons hx1 (pa_cons hx2 pa_nil hs4) hs3)) pa_nil hs2) hs) (by decide) (by decide) hs hpl) fun σ H Q ⟨ρ, Hs, d, st, ef, k⟩ => ?_
  obtain ⟨y, e1, e2⟩ := bind1 ef
  obtain ⟨b, rfl⟩ := gAns_bl e2
  refine ⟨ρ, Hs, y, st, e1, fun v' H' Hs' g r => ⟨by show 2 ≤ sizeLine; decide, fun t ht => ?_⟩⟩
  have g2 : Grow Hs' H' Hs' (upd H' t (.tup [.ref C1, .ref C2])) := ⟨Same.refl _, sm_upd ht, sm_updR g.sub (g.sub.free ht), fun b hb e => absurd e hb⟩
  exact ⟨v', y, b, Hs', t, rfl, g2.sub, r, e2, upd_same, k _ _ Hs' (g.trans g2) (.bl _)⟩
end
end DL
set_option maxHeartbeats 4000000
namespace DL
open PySem PySem.Spec L2 PyProof.Rows
structure MidH (x : Addr) (Hs H Hs' H' : Hp) : Prop where
  keep : ∀ b o, b ≠ x → H b = some o → H' b = some o
  hs : Same Hs Hs'
  new : ∀ b, Hs' b ≠ none → Hs b = none → H b = none
  sub : Same Hs' H'
  nx : Hs' x = none
noncomputable def mkEnd (K : PySem.W.Frag) (C : Addr) (ns : List Str) (x dx : Addr) (Hs H : Hp) (Q : VK) (E : XK) : List D ⊕ Addr → Prop
  | .inl fds => ∀ (H' Hs' : Hp) (fv : List (Str × V)), MidH x Hs H Hs' H' → H' x = some (.ins C dx fv) → fv.map (·.1) = ns → Reps K (newOnly H Hs') fds (fv.map (·.2)) → Q .non H'
  | .inr B => ∀ (H' Hs' : Hp), MidH x Hs H Hs' H' → H' x = some (.ins C dx []) → E (.ref B) none H'
noncomputable def spMk (K : PySem.W.Frag) (C : Addr) (ns : List Str) (FM : List D → Option (List D ⊕ Addr)) : Sp := fun vs H Q E => ∃ (x dx : Addr) (Hs : Hp) (ds : List D) (us : List V) (r : List D ⊕ Addr), vs = .ref x :: us ∧ H x = some (.ins C dx []) ∧ Hs x = none ∧ Same Hs H ∧ Reps K Hs ds us ∧ FM ds = some r ∧ mkEnd K C ns x dx Hs H Q E r
structure Dk (P : Program) (w : World) (K : PySem.W.Frag) (mg : Str → Option Value) (base : Heap) (k : Nat) (x : Str) (C : Addr) (ps ns : List Str) (FM : List D → Option (List D ⊕ Addr)) : Prop where
  ex : ∃ (f : Addr) (fd : FuncData), Mk K C f ∧ mg x = some (.ref C) ∧ Binds K fd ps [] ∧ FnOk P w K mg base (CX1 P w) k f fd ps (spMk K C ns FM)
theorem Dk.mono {P : Program} {w : World} {K : PySem.W.Frag} {mg : Str → Option Value} {base : Heap} {j k : Nat} {x : Str} {C : Addr} {ps ns : List Str} {FM : List D → Option (List D ⊕ Addr)} (d : Dk P w K mg base j x C ps ns FM) (h : j ≤ k) : Dk P w K mg base k x C ps ns FM :=
  let ⟨f, fd, h1, h2, h3, h4⟩ := d.ex; ⟨f, fd, h1, h2, h3, h4.mono h⟩
section
variable {K : PySem.W.Frag} {Hs H Hs1 H1 Hs' H' : Hp} {y dy C : Addr}
theorem mk_same (g1 : Grow Hs H Hs1 H1) (ny : H1 y = none) (ndy : H1 dy = none) : Same Hs1 (upd (upd H1 dy (.own y)) y (.ins C dy [])) := sm_updR (sm_updR g1.sub (g1.sub.free ndy)) (g1.sub.free ny)
theorem mk_none (g1 : Grow Hs H Hs1 H1) (ny : H1 y = none) (ndy : H1 dy = none) : ∀ b, (upd (upd H1 dy (.own y)) y (.ins C dy [])) b = none → H b = none := fun b hb => by
  by_cases q : b = y
  · rw [q]; exact g1.h.free ny
  · rw [upd_ne q] at hb
    by_cases q2 : b = dy
    · rw [q2]; exact g1.h.free ndy
    · rw [upd_ne q2] at hb
      exact g1.h.free hb
theorem mk_keep (g1 : Grow Hs H Hs1 H1) (ny : H1 y = none) (ndy : H1 dy = none) (m : MidH y Hs1 (upd (upd H1 dy (.own y)) y (.ins C dy [])) Hs' H') : Same H H' := fun b o hb => by
  have h1 := g1.h b o hb
  have ny' : b ≠ y := ne_of_none h1 ny
  refine m.keep b o ny' ?_
  rw [upd_ne ny', upd_ne (ne_of_none h1 ndy)]
  exact h1
theorem mk_grow (g1 : Grow Hs H Hs1 H1) (ny : H1 y = none) (ndy : H1 dy = none) {fv : List (Str × V)} (m : MidH y Hs1 (upd (upd H1 dy (.own y)) y (.ins C dy [])) Hs' H') (hy : H' y = some (.ins C dy fv)) : Grow Hs H (upd Hs' y (.ins C dy fv)) H' := by
  have hs' : Same Hs' (upd Hs' y (.ins C dy fv)) := sm_upd m.nx
  refine ⟨(g1.hs.trans m.hs).trans hs', mk_keep g1 ny ndy m, fun b o hb => ?_, fun b hb hb2 => ?_⟩
  · by_cases q : b = y
    · subst q; rw [upd_same] at hb; cases hb; exact hy
    · rw [upd_ne q] at hb; exact m.sub b o hb
  · by_cases q : b = y
    · rw [q]; exact g1.h.free ny
    · rw [upd_ne q] at hb
      cases z : Hs1 b with
      | some o => exact g1.new b (by rw [z]; simp) hb2
      | none => exact mk_none g1 ny ndy b (m.new b hb z)
theorem mk_rep (g1 : Grow Hs H Hs1 H1) (ny : H1 y = none) (ndy : H1 dy = none) {fv : List (Str × V)} {fds : List D} {ns : List Str} (m : MidH y Hs1 (upd (upd H1 dy (.own y)) y (.ins C dy [])) Hs' H') (e : fv.map (·.1) = ns) (r : Reps K (newOnly (upd (upd H1 dy (.own y)) y (.ins C dy [])) Hs') fds (fv.map (·.2))) :
    Rep K (newOnly H (upd Hs' y (.ins C dy fv))) (.ins C ns fds) (.ref y) := by
  refine .ins (dx := dy) (fs := fv) (by rw [newOnly_at (g1.h.free ny)]; exact upd_same) e (Reps.mono (fun b o hb => ?_) r)
  unfold newOnly at hb ⊢
  split at hb
  · rename_i q
    rw [mk_none g1 ny ndy b q]
    exact sm_upd m.nx b o hb
  · cases hb
theorem mk_exc (g1 : Grow Hs H Hs1 H1) (ny : H1 y = none) (ndy : H1 dy = none) {a B : Addr} (m : MidH y Hs1 (upd (upd H1 dy (.own y)) y (.ins C dy [])) Hs' H') (ha : H' a = none) : Grow Hs H (upd Hs' a (.ext (excAt a B))) (upd H' a (.ext (excAt a B))) := by
  have hsa : Hs' a = none := m.sub.free ha
  have k := mk_keep g1 ny ndy m
  refine ⟨(g1.hs.trans m.hs).trans (sm_upd hsa), k.trans (sm_upd ha), sm_upd2 m.sub, fun b hb hb2 => ?_⟩
  by_cases q : b = a
  · rw [q]; exact k.free ha
  · rw [upd_ne q] at hb
    cases z : Hs1 b with
    | some o => exact g1.new b (by rw [z]; simp) hb2
    | none => exact mk_none g1 ny ndy b (m.new b hb z)
end
section
variable {X : Cx} {K : PySem.W.Frag} {k : Nat} {x : Str} {C : Addr} {p pos : Pos} {e : Expr} {es : List Expr} {as : Rho → Option (List D)} {ps ns : List Str} {FM : List D → Option (List D ⊕ Addr)}
noncomputable def gTry (i kk j : Nat) (C : Addr) (ns : List Str) (FM : List D → Option (List D ⊕ Addr)) (as : Rho → Option (List D)) : Fs := fun ρ => (as ρ).bind fun ds => (FM ds).bind fun r => match r with
  | .inl fds => some (.nx (ρ.set i (some (.val (.ins C ns fds)))))
  | .inr B => if j < ρ.length then some (.nx ((ρ.set kk (some (.val (.exc B)))).set j none)) else none
theorem St1.unset {K : PySem.W.Frag} {Hs₀ H₀ Hs H : Hp} {ρ : Rho} {σ : L2.St} {j : Nat} (s : St1 K Hs₀ H₀ Hs H ρ σ) : St1 K Hs₀ H₀ Hs H (ρ.set j none) (σ.set j none) := by
  have ne : ∀ {i : Nat} {sl : Sl}, (ρ.set j none)[i]? = some (some sl) → i ≠ j ∧ ρ[i]? = some (some sl) := fun {i sl} h => by
    by_cases q : j = i
    · subst q
      rw [List.getElem?_set] at h
      rw [if_pos rfl] at h
      split at h <;> cases h
    · rw [List.getElem?_set_ne q] at h
      exact ⟨Ne.symm q, h⟩
  refine ⟨⟨s.st.sub, by rw [List.length_set, List.length_set]; exact s.st.len, fun i sl h => ?_⟩, s.gr, fun i ds a h1 h2 => ?_, fun i i' ds es a h1 h2 h3 h4 => ?_⟩
  · obtain ⟨n, h⟩ := ne h
    rw [List.getElem?_set_ne (Ne.symm n)]
    exact s.st.slot i sl h
  · obtain ⟨n, h⟩ := ne h1
    rw [List.getElem?_set_ne (Ne.symm n)] at h2
    exact s.fresh i ds a h h2
  · obtain ⟨n, h⟩ := ne h1
    obtain ⟨n', h'⟩ := ne h2
    rw [List.getElem?_set_ne (Ne.symm n)] at h3
    rw [List.getElem?_set_ne (Ne.symm n')] at h4
    exact s.apart i i' ds es a h h' h3 h4
theorem ps_tryF {cR : Value} {rn n y z : Str} {pos' cpos pos1 np hpos apos zp np2 : Pos} (i kk j : Nat) (hst : X.stack = X.env :: X.outer) (hfr : X.env.frame = some X.env.locals) (hd : Dk X.prog X.w K X.mg X.base k x C ps ns FM) (hr : Room (k + 1) X.A) (hg : Gl X x) (ha : PFA X.nox K (e :: es) as)
    (hgR : Gl X rn) (hmR : X.mg rn = some cR) (hB : ∀ ds B, FM ds = some (.inr B) → PySem.W.exmOne K (.ref B) cR = some true) (hN : X.N.Nodup) (hkj : kk ≠ j) (hi : X.N[i]? = some y := by rfl) (hk : X.N[kk]? = some z := by rfl) (hj : X.N[j]? = some n := by rfl)
    (hy : X.env.scope.names.lookup y = some .local := by rfl) (hz : X.env.scope.names.lookup z = some .local := by rfl) (hkn : X.env.scope.names.lookup n = some .local := by rfl)
    (hdb : (x == ("__debug__" : Str)) = false := by decide) (hdR : (rn == ("__debug__" : Str)) = false := by decide) (hdn : (n == ("__debug__" : Str)) = false := by decide) (hcd : (n == ("__classdict__" : Str)) = false := by decide)
    (he : starEach (e :: es) X.env = (false, eval e X.env) :: starEach es X.env := by rfl) (hpl : (backTo cpos (starEach es X.env)).any (·.1) = false := by rfl)
    (hs : swapsWith (.Call (.Name x p) (e :: es) [] cpos) (some (.Name y pos')) pos1.line X.env = pure false := by rfl) (hs2 : swapsWith (.Name n np2) (some (.Name z zp)) apos.line X.env = pure false := by rfl) :
    PFS X K (.Try [.Assign [.Name y pos'] (.Call (.Name x p) (e :: es) [] cpos) pos1] [.ExceptHandler (some (.Name rn np)) (some n) [.Assign [.Name z zp] (.Name n np2) apos] hpos] [] [] pos) (gTry i kk j C ns FM as) := fun hK => by
  subst hK
  obtain ⟨f, fd, M, hm, hb, F⟩ := hd.ex
  refine PS.imp (ps_tryMake (i := i) (j := j) hst hfr M F hr hb hg hm (ha rfl) hgR hmR hN hi (.inl hy) hj hkn (fun a => pss_one (ps_set (X := X.hand a) (i := kk) hN hk (.inl hz) (pe_var (X := X.hand a) (i := j) hj (.inl hkn) hdn hcd) hs2 (.inr hz))) hdb hdR he hpl hs (.inr hy)) fun Dn σ H ⟨Hs₀, H₀, ρ, Hs, out, s, ef, k⟩ => ?_
  obtain ⟨ds, e1, e2⟩ := bind1 ef
  obtain ⟨r, e3, e4⟩ := bind1 e2
  refine ⟨ρ, Hs, ds, s.st, e1, fun vs H1 Hs1 g1 r1 => ?_⟩
  intro u du nu ndu nxu
  refine ⟨u, du, Hs1, ds, vs, r, rfl, upd_same, g1.sub.free nu, mk_same g1 nu ndu, r1, e3, ?_⟩
  cases r with
  | inl fds =>
    cases e4
    intro H' Hs' fv m hu hn rr
    refine ⟨rfl, k _ H' (upd Hs' u (.ins C du fv)) ?_ (mk_grow g1 nu ndu m hu).hs⟩
    exact (s.grow (mk_grow g1 nu ndu m hu)).set ((mk_rep g1 nu ndu m hn rr).mono (newOnly_sub _ _))
  | inr B =>
    have e4' : (if j < ρ.length then some (Out.nx ((ρ.set kk (some (.val (.exc B)))).set j none)) else none) = some out := e4
    have hjr : j < ρ.length := by
      by_cases q : j < ρ.length
      · exact q
      · rw [if_neg q] at e4'; cases e4'
    rw [if_pos hjr] at e4'
    cases e4'
    intro H' Hs' m hu
    refine ⟨B, rfl, hB ds B e3, fun a hna => ?_⟩
    have g2 := mk_exc (B := B) g1 nu ndu m hna
    have hjl : j < σ.length := by rw [← s.st.len]; exact hjr
    refine ⟨.ref a, by rw [List.getElem?_set, if_pos rfl, if_pos hjl], ?_, ?_⟩
    · refine ⟨.ref a, ?_⟩
      rw [List.getElem?_set_ne hkj, List.getElem?_set, if_pos rfl, if_pos hjl]
    · have s2 := ((s.grow g2).set (i := kk) (d := .exc B) (v := .ref a) (.exc upd_same)).unset (j := j)
      have e5 : ((σ.set j (some (.ref a))).set kk (some (.ref a))).set j none = (σ.set kk (some (.ref a))).set j none := by
        rw [List.set_comm _ _ (Ne.symm hkj), List.set_set]
      show Dn.nx (((σ.set j (some (.ref a))).set kk (some (.ref a))).set j none) _
      rw [e5]
      exact k _ _ _ s2 g2.hs
end
end DL
set_option maxHeartbeats 4000000
namespace CR
open PySem PySem.Spec L2 DL
noncomputable def FX_check_states (CB : Addr) : List D → Option Rx
  | [.lst a, .lst b, .lst c, .lst d] => if a.length ≤ 1000 then (if 1 ≤ a.length ∧ a.length ≤ 8 ∧ b.length = a.length ∧ c.length = a.length ∧ d.length = a.length then some (.val .non) else some (.xr CB)) else none
  | _ => none
noncomputable def isL : D → Bool
  | .lst _ => true
  | _ => false
noncomputable def FX_check_rows (CB : Addr) : List D → Option Rx
  | [.lst rows, .int w, .str x] => if (0 ≤ w ∧ w ≤ 1000 ∧ x.length ≤ 1000) ∧ rows.all isL = true then (if rows.all (lenIs w) then some (.val .non) else some (.xr CB)) else none
  | _ => none
noncomputable def FX_check_signs (CB : Addr) : List D → Option Rx
  | [.lst (.lst r :: rs)] => if r.length ≤ 1000 ∧ rs.all isL = true then (if 1 ≤ r.length ∧ r.length ≤ 8 ∧ rs.all (lenIs r.length) then some (.val .non) else some (.xr CB)) else none
  | _ => none
noncomputable def smallB (c : Ch) : Bool := decide (c.starts.length ≤ 1000) && decide (c.steps.length ≤ 1000) && decide (c.signs.length ≤ 1000) && c.signs.all fun r => decide (r.length ≤ 1000)
noncomputable abbrev ps_Chain : List Str := ["self", "starts", "steps", "signs", "ends"]
noncomputable abbrev ns_Chain : List Str := chNs
noncomputable def FM_Chain (C CB : Addr) : List D → Option (List D ⊕ Addr)
  | [a, b, c, d] => (decL a).bind fun a => (decLL b).bind fun b => (decLL c).bind fun c => (decL d).bind fun d => if smallB ⟨a, b, c, d⟩ then (if wfB ⟨a, b, c, d⟩ then some (.inl [encL a, encLL b, encLL c, encL d]) else some (.inr CB)) else none
  | _ => none
end CR
namespace CR
open PySem L2 DL
noncomputable def x_check_states (CB : Addr) : Fx :=
  (xSeq (xOk (gSet 4 (fA gLen (aCons (fVar 0) aNil)))) (xSeq (xIf (bOr (bTest (f2 gLt (fVar 4) (fC (.int 1)))) (bTest (f2 gGt (fVar 4) (fC (.int 8))))) (xRaise CB (jLit (Str.ofString "a chain has 1 to ").length (jInt (fC (.int 8)) (jLit (Str.ofString " states, not ").length (jInt (fVar 4) jNil))))) (xOk gNext)) (xIf (bOr (bTest (f2 gNe (fA gLen (aCons (fVar 1) aNil)) (fVar 4))) (bOr (bTest (f2 gNe (fA gLen (aCons (fVar 2) aNil)) (fVar 4))) (bTest (f2 gNe (fA gLen (aCons (fVar 3) aNil)) (fVar 4))))) (xRaise CB (jLit (Str.ofString "steps, signs and ends are not for ").length (jInt (fVar 4) (jLit (Str.ofString " states each").length jNil)))) (xOk gNext))))
noncomputable def x_check_rows (CB : Addr) : Fx :=
  (xFor (iLst (fVar 0)) (tName 3) (xIf (bTest (f2 gNe (fA gLen (aCons (fVar 3) aNil)) (fVar 1))) (xRaise CB (jLit (Str.ofString "a list within ").length (jStr (fVar 2) (jLit (Str.ofString " has not ").length (jInt (fVar 1) (jLit (Str.ofString " costs").length jNil)))))) (xOk gNext)))
noncomputable def x_check_signs (CB : Addr) : Fx :=
  (xSeq (xOk (gSet 1 (fA gLen (aCons (f2 gIx (fVar 0) (fC (.int 0))) aNil)))) (xSeq (xIf (bOr (bTest (f2 gLt (fVar 1) (fC (.int 1)))) (bTest (f2 gGt (fVar 1) (fC (.int 8))))) (xRaise CB (jLit (Str.ofString "a chain has 1 to ").length (jInt (fC (.int 8)) (jLit (Str.ofString " signs, not ").length (jInt (fVar 1) jNil))))) (xOk gNext)) (xCall (FX_check_rows CB) (aCons (fVar 0) (aCons (fVar 1) (aCons (fC (.str "signs")) aNil))))))
noncomputable def g_law (C : Addr) (CB : Addr) : Fs :=
  (gSeq (gSet 1 (fA gLen (aCons (f2 gIx (fVar 3) (fC (.int 0))) aNil))) (gSeq (gSet 7 (fAnd (f3c gLe gLe (fC (.int 1)) (fVar 1) (fC (.int 8))) (fA gAll (aCons (fComp 1 [(("_law_many" : Str), 1)] (iLst (fVar 3)) (tName 0) bTrue (f2 gEq (fA gLen (aCons (fVar 0) aNil)) (fVar 1))) aNil)))) (gSeq (gSet 7 (fAnd (fVar 7) (fA gAll (aCons (fComp 1 [(("_law_many" : Str), 1)] (iLst (f2 gIx (fVar 3) (fC (.int 1)))) (tName 0) bTrue (f2 gEq (fA gLen (aCons (fVar 0) aNil)) (fVar 1))) aNil)))) (gSeq (gSet 7 (fAnd (fVar 7) (fAnd (f3c gLe gLe (fC (.int 1)) (fA gLen (aCons (f2 gIx (f2 gIx (fVar 3) (fC (.int 2))) (fC (.int 0))) aNil)) (fC (.int 8))) (fA gAll (aCons (fComp 1 [(("_law_lists" : Str), 3)] (iLst (f2 gIx (fVar 3) (fC (.int 2)))) (tName 0) bTrue (f2 gEq (fA gLen (aCons (fVar 0) aNil)) (fA gLen (aCons (f2 gIx (f2 gIx (fVar 1) (fC (.int 2))) (fC (.int 0))) aNil)))) aNil))))) (gSeq (gSet 8 (fC .non)) (gSeq (gSet 9 (fC .non)) (gSeq (gTry 9 8 10 C ns_Chain (FM_Chain C CB) (aCons (f2 gIx (fVar 3) (fC (.int 0))) (aCons (f2 gIx (fVar 3) (fC (.int 1))) (aCons (f2 gIx (fVar 3) (fC (.int 2))) (aCons (f2 gIx (fVar 3) (fC (.int 3))) aNil))))) (gSeq (gIf (bNot (bTru (fVar 7))) (gSeq (gSet 11 (fAnd (f1 (gAns CB false true) (fVar 8)) (f1 (gAns CB false true) (fVar 8)))) (gRet (fAnd (fVar 11) (fNot (f1 (gAns CB false false) (fVar 8)))))) gNext) (gRet (fAnd (f2 gIs (fVar 8) (fC .non)) (fAnd (fA F_Lwhole (aCons (f1 (gSelf C ("size" : Str) ((F_size C))) (fVar 9)) aNil)) (f2 gEq (f1 (gSelf C ("size" : Str) ((F_size C))) (fVar 9)) (fVar 1)))))))))))))
noncomputable abbrev N_law : List Str := ["_law_script", "_law_many", "_law_wide", "_law_lists", "_law_way", "_law_turn", "_law_at", "_law_good", "_law_kept", "_law_chain", "e", "_law_told"]
end CR
set_option maxHeartbeats 4000000
namespace CR
open PySem PySem.Spec L2 DL
section
variable {g h : Fx} {gs : Fs} {ρ ρ' : Rho} {d : D} {C : Addr} {o : Out}
theorem xSeq_nx (e : g ρ = some (.ok (.nx ρ'))) : xSeq g h ρ = h ρ' := by unfold xSeq; rw [e]; rfl
theorem xSeq_xr (e : g ρ = some (.xr C)) : xSeq g h ρ = some (.xr C) := by unfold xSeq; rw [e]; rfl
theorem xOk_eq (e : gs ρ = some o) : xOk gs ρ = some (.ok o) := by unfold xOk; rw [e]; rfl
theorem xIf_t {t : Rho → Option Bool} (e : t ρ = some true) : xIf t g h ρ = g ρ := by unfold xIf; rw [e]; rfl
theorem xIf_f {t : Rho → Option Bool} (e : t ρ = some false) : xIf t g h ρ = h ρ := by unfold xIf; rw [e]; rfl
theorem xFor_eq {fi : Fi} {ft : Ft} {ds : List D} (e : fi ρ = some ds) : xFor fi ft g ρ = loopX ft g ds ρ := by unfold xFor; rw [e]; rfl
theorem runX_nx (e : g ρ = some (.ok (.nx ρ'))) : runX g ρ = some (.val .non) := by unfold runX; rw [e]
theorem runX_xr (e : g ρ = some (.xr C)) : runX g ρ = some (.xr C) := by unfold runX; rw [e]
theorem jLit_eq {fj : Fj} {l n : Nat} (e : fj ρ = some n) : jLit l fj ρ = some (l + n) := by unfold jLit; rw [e]; rfl
theorem jInt_eq {fj : Fj} {f : Fe} {i : Int} {n : Nat} (e1 : f ρ = some (.int i)) (h1 : -(2 ^ 62) ≤ i) (h2 : i < 2 ^ 62) (e : fj ρ = some n) : jInt f fj ρ = some (70 + n) := by
  unfold jInt
  rw [e1, e]
  exact if_pos ⟨h1, h2⟩
theorem jStr_eq {fj : Fj} {f : Fe} {x : Str} {n : Nat} (e1 : f ρ = some (.str x)) (e : fj ρ = some n) : jStr f fj ρ = some (x.length + n) := by
  unfold jStr
  rw [e1, e]
  rfl
theorem xRaise_eq {fj : Fj} {n : Nat} (e : fj ρ = some n) (h : n ≤ 100000) : xRaise C fj ρ = some (.xr C) := by
  unfold xRaise
  rw [e]
  exact if_pos (Nat.le_trans h (by decide))
theorem xCall_val {F : List D → Option Rx} {as : Rho → Option (List D)} {ds : List D} (e : as ρ = some ds) (e2 : F ds = some (.val d)) : xCall F as ρ = some (.ok (.nx ρ)) := by unfold xCall; rw [e]; show (F ds).bind _ = _; rw [e2]; rfl
theorem xCall_xr {F : List D → Option Rx} {as : Rho → Option (List D)} {ds : List D} (e : as ρ = some ds) (e2 : F ds = some (.xr C)) : xCall F as ρ = some (.xr C) := by unfold xCall; rw [e]; show (F ds).bind _ = _; rw [e2]; rfl
end
theorem ofS_len (s : String) : (Str.ofString s).length = s.length := PySem.ofString_length s
theorem m_check_statesX {CB : Addr} {ds : List D} {d : Rx} (h : FX_check_states CB ds = some d) : runX (x_check_states CB) (startR N_check_states ds) = some d := by
  unfold FX_check_states at h
  split at h
  · rename_i a b c e
    have hl : a.length ≤ 1000 := by
      by_cases q : a.length ≤ 1000
      · exact q
      · rw [if_neg q] at h; cases h
    rw [if_pos hl] at h
    have e0 : xOk (gSet 4 (fA gLen (aCons (fVar 0) aNil))) [some (.val (.lst a)), some (.val (.lst b)), some (.val (.lst c)), some (.val (.lst e)), none] = some (.ok (.nx [some (.val (.lst a)), some (.val (.lst b)), some (.val (.lst c)), some (.val (.lst e)), some (.val (.int a.length))])) := rfl
    have i1 : ∀ {x : Int}, (-(2 ^ 62) ≤ (a.length : Int)) := by intro _; lia
    have i2 : (a.length : Int) < 2 ^ 62 := by lia
    show runX (x_check_states CB) [some (.val (.lst a)), some (.val (.lst b)), some (.val (.lst c)), some (.val (.lst e)), none] = _
    by_cases c1 : 1 ≤ a.length ∧ a.length ≤ 8
    · have t1 : bOr (bTest (f2 gLt (fVar 4) (fC (.int 1)))) (bTest (f2 gGt (fVar 4) (fC (.int 8)))) [some (.val (.lst a)), some (.val (.lst b)), some (.val (.lst c)), some (.val (.lst e)), some (.val (.int a.length))] = some false := by
        refine bOr_f (bTest_eq ?_) (bTest_eq ?_)
        · show some (D.bl (decide ((a.length : Int) < 1))) = _
          rw [decide_eq_false (by lia)]
        · show some (D.bl (decide ((8 : Int) < a.length))) = _
          rw [decide_eq_false (by lia)]
      by_cases c2 : b.length = a.length ∧ c.length = a.length ∧ e.length = a.length
      · rw [if_pos ⟨c1.1, c1.2, c2⟩] at h
        cases h
        refine runX_nx (ρ' := [some (.val (.lst a)), some (.val (.lst b)), some (.val (.lst c)), some (.val (.lst e)), some (.val (.int a.length))]) ?_
        unfold x_check_states
        rw [xSeq_nx e0, xSeq_nx ((xIf_f t1).trans (xOk_eq rfl))]
        refine (xIf_f (bOr_f (bTest_eq ?_) (bOr_f (bTest_eq ?_) (bTest_eq ?_)))).trans (xOk_eq rfl)
        · show some (D.bl (!((b.length : Int) == a.length))) = _
          rw [c2.1]; simp
        · show some (D.bl (!((c.length : Int) == a.length))) = _
          rw [c2.2.1]; simp
        · show some (D.bl (!((e.length : Int) == a.length))) = _
          rw [c2.2.2]; simp
      · rw [if_neg fun z => c2 z.2.2] at h
        cases h
        refine runX_xr ?_
        unfold x_check_states
        rw [xSeq_nx e0, xSeq_nx ((xIf_f t1).trans (xOk_eq rfl))]
        refine (xIf_t ?_).trans (xRaise_eq (jLit_eq (jInt_eq rfl (by lia) i2 (jLit_eq rfl))) (by rw [ofS_len, ofS_len]; decide))
        have q1 : ∀ (y : List D), bTest (f2 gNe (fC (.int y.length)) (fC (.int a.length))) [] = some (!decide (y.length = a.length)) := fun y => by
          refine bTest_eq ?_
          show some (D.bl (!((y.length : Int) == a.length))) = _
          by_cases z : y.length = a.length
          · rw [decide_eq_true z, z]; simp
          · rw [decide_eq_false z]
            have : ((y.length : Int) == a.length) = false := by rw [beq_eq_false_iff_ne]; lia
            rw [this]
        by_cases z1 : b.length = a.length
        · by_cases z2 : c.length = a.length
          · have z3 : ¬ e.length = a.length := fun z3 => c2 ⟨z1, z2, z3⟩
            refine bOr_f ((q1 b).trans (by rw [decide_eq_true z1]; rfl)) (bOr_f ((q1 c).trans (by rw [decide_eq_true z2]; rfl)) ((q1 e).trans (by rw [decide_eq_false z3]; rfl)))
          · exact bOr_f ((q1 b).trans (by rw [decide_eq_true z1]; rfl)) (bOr_t ((q1 c).trans (by rw [decide_eq_false z2]; rfl)))
        · exact bOr_t ((q1 b).trans (by rw [decide_eq_false z1]; rfl))
    · rw [if_neg fun z => c1 ⟨z.1, z.2.1⟩] at h
      cases h
      refine runX_xr ?_
      unfold x_check_states
      rw [xSeq_nx e0]
      refine xSeq_xr ((xIf_t ?_).trans (xRaise_eq (jLit_eq (jInt_eq rfl (by decide) (by decide) (jLit_eq (jInt_eq rfl (by lia) i2 rfl)))) (by rw [ofS_len, ofS_len]; decide)))
      by_cases z : a.length < 1
      · refine bOr_t (bTest_eq ?_)
        show some (D.bl (decide ((a.length : Int) < 1))) = _
        rw [decide_eq_true (by lia)]
      · refine bOr_f (b := true) (bTest_eq ?_) (bTest_eq ?_)
        · show some (D.bl (decide ((a.length : Int) < 1))) = _
          rw [decide_eq_false (by lia)]
        · show some (D.bl (decide ((8 : Int) < a.length))) = _
          rw [decide_eq_true (by lia)]
  · cases h
theorem loop_rowsX (CB : Addr) (w : Int) (h0 : 0 ≤ w) (hw : w ≤ 1000) (x : Str) (hx : x.length ≤ 1000) : ∀ (rows : List D) (a b : Option Sl), rows.all isL = true →
    (rows.all (lenIs w) = true → ∃ z, loopX (tName 3) (xIf (bTest (f2 gNe (fA gLen (aCons (fVar 3) aNil)) (fVar 1))) (xRaise CB (jLit (Str.ofString "a list within ").length (jStr (fVar 2) (jLit (Str.ofString " has not ").length (jInt (fVar 1) (jLit (Str.ofString " costs").length jNil)))))) (xOk gNext)) rows [a, some (.val (.int w)), some (.val (.str x)), b] = some (.ok (.nx [a, some (.val (.int w)), some (.val (.str x)), z]))) ∧
    (¬ rows.all (lenIs w) = true → loopX (tName 3) (xIf (bTest (f2 gNe (fA gLen (aCons (fVar 3) aNil)) (fVar 1))) (xRaise CB (jLit (Str.ofString "a list within ").length (jStr (fVar 2) (jLit (Str.ofString " has not ").length (jInt (fVar 1) (jLit (Str.ofString " costs").length jNil)))))) (xOk gNext)) rows [a, some (.val (.int w)), some (.val (.str x)), b] = some (.xr CB))
  | [], a, b, _ => ⟨fun _ => ⟨b, rfl⟩, fun h => absurd rfl h⟩
  | r :: rows, a, b, hL => by
    rw [List.all_cons, Bool.and_eq_true] at hL
    obtain ⟨h1, h2⟩ := loop_rowsX CB w h0 hw x hx rows a (some (.val r)) hL.2
    cases r <;> first | (cases hL.1; done) | skip
    rename_i xs
    rw [List.all_cons, Bool.and_eq_true]
    by_cases hl : (xs.length : Int) = w
    · have e1 : xIf (bTest (f2 gNe (fA gLen (aCons (fVar 3) aNil)) (fVar 1))) (xRaise CB (jLit (Str.ofString "a list within ").length (jStr (fVar 2) (jLit (Str.ofString " has not ").length (jInt (fVar 1) (jLit (Str.ofString " costs").length jNil)))))) (xOk gNext) [a, some (.val (.int w)), some (.val (.str x)), some (.val (.lst xs))] = some (.ok (.nx [a, some (.val (.int w)), some (.val (.str x)), some (.val (.lst xs))])) := by
        refine (xIf_f (bTest_eq ?_)).trans (xOk_eq rfl)
        show some (D.bl (!((xs.length : Int) == w))) = _
        rw [hl]; simp
      have hh : lenIs w (.lst xs) = true := decide_eq_true hl
      refine ⟨fun z => ?_, fun z => ?_⟩
      · obtain ⟨y, hy⟩ := h1 z.2
        refine ⟨y, ?_⟩
        show ((xIf _ _ _ [a, some (.val (.int w)), some (.val (.str x)), some (.val (.lst xs))]).bind _) = _
        rw [e1]
        exact hy
      · have := h2 fun q => z ⟨hh, q⟩
        show ((xIf _ _ _ [a, some (.val (.int w)), some (.val (.str x)), some (.val (.lst xs))]).bind _) = _
        rw [e1]
        exact this
    · refine ⟨fun z => absurd (of_decide_eq_true z.1) hl, fun _ => ?_⟩
      have e1 : xIf (bTest (f2 gNe (fA gLen (aCons (fVar 3) aNil)) (fVar 1))) (xRaise CB (jLit (Str.ofString "a list within ").length (jStr (fVar 2) (jLit (Str.ofString " has not ").length (jInt (fVar 1) (jLit (Str.ofString " costs").length jNil)))))) (xOk gNext) [a, some (.val (.int w)), some (.val (.str x)), some (.val (.lst xs))] = some (.xr CB) := by
        refine (xIf_t (bTest_eq ?_)).trans (xRaise_eq (jLit_eq (jStr_eq rfl (jLit_eq (jInt_eq rfl (by lia) (by lia) (jLit_eq rfl))))) ?_)
        · show some (D.bl (!((xs.length : Int) == w))) = _
          have : ((xs.length : Int) == w) = false := by simpa using hl
          rw [this]; rfl
        · rw [ofS_len, ofS_len, ofS_len]
          have e1 : ("a list within " : String).length = 14 := by decide
          have e2 : (" has not " : String).length = 9 := by decide
          have e3 : (" costs" : String).length = 6 := by decide
          lia
      show ((xIf _ _ _ [a, some (.val (.int w)), some (.val (.str x)), some (.val (.lst xs))]).bind _) = _
      rw [e1]
      rfl
theorem m_check_rowsX {CB : Addr} {ds : List D} {d : Rx} (h : FX_check_rows CB ds = some d) : runX (x_check_rows CB) (startR N_check_rows ds) = some d := by
  unfold FX_check_rows at h
  split at h
  · rename_i rows w x
    have hb : (0 ≤ w ∧ w ≤ 1000 ∧ x.length ≤ 1000) ∧ rows.all isL = true := by
      by_cases q : (0 ≤ w ∧ w ≤ 1000 ∧ x.length ≤ 1000) ∧ rows.all isL = true
      · exact q
      · rw [if_neg q] at h; cases h
    rw [if_pos hb] at h
    obtain ⟨h1, h2⟩ := loop_rowsX CB w hb.1.1 hb.1.2.1 x hb.1.2.2 rows (some (.val (.lst rows))) none hb.2
    by_cases c : rows.all (lenIs w) = true
    · rw [if_pos c] at h
      cases h
      obtain ⟨z, hz⟩ := h1 c
      exact runX_nx ((xFor_eq rfl).trans hz)
    · rw [if_neg c] at h
      cases h
      exact runX_xr ((xFor_eq rfl).trans (h2 c))
  · cases h
theorem m_check_signsX {CB : Addr} {ds : List D} {d : Rx} (h : FX_check_signs CB ds = some d) : runX (x_check_signs CB) (startR N_check_signs ds) = some d := by
  unfold FX_check_signs at h
  split at h
  · rename_i r rs
    have hb : r.length ≤ 1000 ∧ rs.all isL = true := by
      by_cases q : r.length ≤ 1000 ∧ rs.all isL = true
      · exact q
      · rw [if_neg q] at h; cases h
    rw [if_pos hb] at h
    have e0 : gIx (.lst (.lst r :: rs)) (.int 0) = some (.lst r) := by
      show atI (D.lst r :: rs) ((0 : Nat) : Int) = _
      exact atI_nat rfl
    have s0 : xOk (gSet 1 (fA gLen (aCons (f2 gIx (fVar 0) (fC (.int 0))) aNil))) [some (.val (.lst (.lst r :: rs))), none] = some (.ok (.nx [some (.val (.lst (.lst r :: rs))), some (.val (.int r.length))])) :=
      xOk_eq ((gSet_eq (d := .int r.length) ((fA_eq (aCons_eq ((f2_eq rfl rfl).trans e0) rfl)).trans rfl)).trans rfl)
    show runX (x_check_signs CB) [some (.val (.lst (.lst r :: rs))), none] = _
    by_cases c1 : 1 ≤ r.length ∧ r.length ≤ 8
    · have t1 : bOr (bTest (f2 gLt (fVar 1) (fC (.int 1)))) (bTest (f2 gGt (fVar 1) (fC (.int 8)))) [some (.val (.lst (.lst r :: rs))), some (.val (.int r.length))] = some false := by
        refine bOr_f (bTest_eq ?_) (bTest_eq ?_)
        · show some (D.bl (decide ((r.length : Int) < 1))) = _
          rw [decide_eq_false (by lia)]
        · show some (D.bl (decide ((8 : Int) < r.length))) = _
          rw [decide_eq_false (by lia)]
      have hF : FX_check_rows CB [.lst (.lst r :: rs), .int r.length, .str "signs"] = (if rs.all (lenIs r.length) then some (.val .non) else some (.xr CB)) := by
        show (if (0 ≤ (r.length : Int) ∧ (r.length : Int) ≤ 1000 ∧ ("signs" : Str).length ≤ 1000) ∧ (D.lst r :: rs).all isL = true then (if (D.lst r :: rs).all (lenIs r.length) then some (Rx.val .non) else some (.xr CB)) else none) = _
        rw [if_pos ⟨⟨by lia, by lia, by decide⟩, by rw [List.all_cons, hb.2]; rfl⟩, List.all_cons, show lenIs (r.length : Int) (.lst r) = true from decide_eq_true rfl, Bool.true_and]
      by_cases c2 : rs.all (lenIs r.length) = true
      · rw [if_pos ⟨c1.1, c1.2, c2⟩] at h
        cases h
        refine runX_nx (ρ' := [some (.val (.lst (.lst r :: rs))), some (.val (.int r.length))]) ?_
        unfold x_check_signs
        rw [xSeq_nx s0, xSeq_nx ((xIf_f t1).trans (xOk_eq rfl))]
        exact xCall_val (d := .non) rfl (hF.trans (if_pos c2))
      · rw [if_neg fun z => c2 z.2.2] at h
        cases h
        refine runX_xr ?_
        unfold x_check_signs
        rw [xSeq_nx s0, xSeq_nx ((xIf_f t1).trans (xOk_eq rfl))]
        exact xCall_xr rfl (hF.trans (if_neg c2))
    · rw [if_neg fun z => c1 ⟨z.1, z.2.1⟩] at h
      cases h
      refine runX_xr ?_
      unfold x_check_signs
      rw [xSeq_nx s0]
      refine xSeq_xr ((xIf_t ?_).trans (xRaise_eq (jLit_eq (jInt_eq rfl (by decide) (by decide) (jLit_eq (jInt_eq rfl (by lia) (by lia) rfl)))) (by rw [ofS_len, ofS_len]; decide)))
      by_cases z : r.length < 1
      · refine bOr_t (bTest_eq ?_)
        show some (D.bl (decide ((r.length : Int) < 1))) = _
        rw [decide_eq_true (by lia)]
      · refine bOr_f (b := true) (bTest_eq ?_) (bTest_eq ?_)
        · show some (D.bl (decide ((r.length : Int) < 1))) = _
          rw [decide_eq_false (by lia)]
        · show some (D.bl (decide ((8 : Int) < r.length))) = _
          rw [decide_eq_true (by lia)]
  · cases h
end CR
set_option maxHeartbeats 4000000
namespace CR
open PySem PySem.F L2 DL PyProof.Rows
noncomputable def top (i : Nat) : Stmt := PySem.Challenge.pw_cheapread_k02_no_chains.main.body.getD i (.Pass ⟨0, 0, 0, 0⟩)
structure Txt (K : PySem.W.Frag) (mg : Str → Option Value) (C : Addr) : Prop where
  b_ValueError : mg "ValueError" = none
  b_all : mg "all" = none
  b_bool : mg "bool" = none
  b_int : mg "int" = none
  b_isinstance : mg "isinstance" = none
  b_len : mg "len" = none
  b_range : mg "range" = none
  c_MOST_SIGNS : ∃ t, mg "MOST_SIGNS" = some (.int 8 t)
  c_MOST_STATES : ∃ t, mg "MOST_STATES" = some (.int 8 t)
  cl : Cls K C
  kit_bool : KitOk K "bool"
  kit_int : KitOk K "int"
  n_starts : NoAttr K C "starts"
structure Exn (K : PySem.W.Frag) (mg : Str → Option Value) (base : Heap) (CB CR C1 C2 : Addr) : Prop where
  own : OwnCls "BadChain" CB [.type "ValueError", .type "Exception", .type "BaseException", .type "object"] "ValueError.__new__" mg base
  e_BadChain : mg "BadChain" = some (.ref CB)
  e_ReadError : mg "ReadError" = some (.ref CR)
  e_BadWords : mg "BadWords" = some (.ref C1)
  e_BadGrammar : mg "BadGrammar" = some (.ref C2)
  ik_BadChain : IsK K [.ref CB] CB false true
  ik_ValueError : IsK K [.type "ValueError"] CB false true
  ik_BadWords_BadGrammar : IsK K [.ref C1, .ref C2] CB false false
  exm : PySem.W.exmOne K (.ref CB) (.ref CR) = some true
theorem boot_ValueError : bootBuiltins "ValueError" = some (.type "ValueError") := by kernel_rfl
theorem pf_globE {X : Cx} {K : PySem.W.Frag} {pos : Pos} {x : Str} {i : Int} (hg : Gl X x) (hm : ∃ t, X.mg x = some (.int i t)) (hd : (x == ("__debug__" : Str)) = false := by decide) : PF X K (.Name x pos) (fC (.int i)) :=
  let ⟨_, h⟩ := hm; pf_glob hg h hd
theorem exm_Chain {K : PySem.W.Frag} {mg : Str → Option Value} {base : Heap} {C CB CR C1 C2 B : Addr} (V : Exn K mg base CB CR C1 C2) {ds : List D} (h : FM_Chain C CB ds = some (.inr B)) : PySem.W.exmOne K (.ref B) (.ref CR) = some true := by
  unfold FM_Chain at h
  split at h
  · obtain ⟨a', q1, h⟩ := bind1 h
    obtain ⟨b', q2, h⟩ := bind1 h
    obtain ⟨c', q3, h⟩ := bind1 h
    obtain ⟨d', q4, h⟩ := bind1 h
    split at h
    · split at h
      · cases h
      · cases h; exact V.exm
    · cases h
  · cases h
section
variable {P : Program} {w : World} {K : PySem.W.Frag} {mg : Str → Option Value} {base : Heap} {C CB CR C1 C2 : Addr}
noncomputable abbrev s_init : Stmt := inClass (top 8) 0
theorem fs_init : FnScope N_init ["self", "starts", "steps", "signs", "ends"] (defScope s_init) := ⟨rfl, rfl, rfl, by decide +kernel, rfl, by decide +kernel, by decide +kernel⟩
noncomputable abbrev sc_init_0 : Scope := { kind := .function, names := [(Str.ofString ".0", NameKind.local), (Str.ofString "costs", NameKind.local), (Str.ofString "list", NameKind.globalImplicit)], isGenerator := false, isCoroutine := false, more := [] }
theorem S_init_0 : CScopeN (defScope s_init) [("self" : Str), ("starts" : Str), ("steps" : Str), ("signs" : Str), ("ends" : Str)] sc_init_0 [("costs" : Str)] [] := ⟨rfl, by decide +kernel, by decide +kernel, by decide +kernel, by decide +kernel, by decide +kernel⟩
noncomputable abbrev sc_init_1 : Scope := { kind := .function, names := [(Str.ofString ".0", NameKind.local), (Str.ofString "costs", NameKind.local), (Str.ofString "list", NameKind.globalImplicit)], isGenerator := false, isCoroutine := false, more := [] }
theorem S_init_1 : CScopeN (defScope s_init) [("self" : Str), ("starts" : Str), ("steps" : Str), ("signs" : Str), ("ends" : Str)] sc_init_1 [("costs" : Str)] [] := ⟨rfl, by decide +kernel, by decide +kernel, by decide +kernel, by decide +kernel, by decide +kernel⟩
noncomputable abbrev s_size : Stmt := inClass (top 8) 1
theorem fs_size : FnScope N_size ["self"] (defScope s_size) := ⟨rfl, rfl, rfl, by decide +kernel, rfl, by decide +kernel, by decide +kernel⟩
theorem t_size (T : Txt K mg C)  {f : Addr} (cdv : Value) (A : Around) (outer : List Env) (s : Shared) (H : Hp) (E : XK) (hr : Room 0 (A.deeper (PyProof.Rows.envOfC "Chain.size" (defScope s_size) s.heap.objs.size f cdv))) :
    PFSs (cxOf CX0 P w K mg base N_size "Chain.size" (defScope s_size) f cdv A outer s H E).nox K (defBody s_size) (g_size C) :=
  (pss_oneF (ps_retF (pf_callB call_len_seq a_len rfl T.b_len boot_len (pfa_cons (pf_fld (pf_var 0) T.cl T.n_starts) pfa_nil))))
noncomputable abbrev s_check_states : Stmt := top 9
theorem fs_check_states : FnScope N_check_states ["starts", "steps", "signs", "ends"] (defScope s_check_states) := ⟨rfl, rfl, rfl, by decide +kernel, rfl, by decide +kernel, by decide +kernel⟩
theorem t_check_states (T : Txt K mg C) (V : Exn K mg base CB CR C1 C2)  {f : Addr} (cdv : Value) (A : Around) (outer : List Env) (s : Shared) (H : Hp) (E : XK) (hr : Room 0 (A.deeper (PyProof.Rows.envOfC "check_states" (defScope s_check_states) s.heap.objs.size f cdv))) :
    PFXs (cxOf (CX1 P w) P w K mg base N_check_states "check_states" (defScope s_check_states) f cdv A outer s H E) K (defBody s_check_states) (x_check_states CB) :=
  (pxs_cons (px_lift (ps_setF 4 fs_check_states.nd (pf_callB call_len_seq a_len rfl T.b_len boot_len (pfa_cons (pf_var 0) pfa_nil)))) (pxs_cons (px_if (PFW.pt (pw_orF (pt_cmpF op_lt a_lt (pf_var 4) pf_int) (pw_or1F (pt_cmpF op_gt a_gt (pf_var 4) (pf_globE rfl T.c_MOST_STATES))))) (pxs_one (px_raise V.own excBase_ValueError rfl rfl (pj_lit (pj_int (pf_globE rfl T.c_MOST_STATES) (pj_lit (pj_int (pf_var 4) pj_nil)))))) pxs_nil) (pxs_one (px_if (PFW.pt (pw_orF (pt_cmpF (o_ne hr.units) a_ne (pf_callB call_len_seq a_len rfl T.b_len boot_len (pfa_cons (pf_var 1) pfa_nil)) (pf_var 4)) (pw_orF (pt_cmpF (o_ne hr.units) a_ne (pf_callB call_len_seq a_len rfl T.b_len boot_len (pfa_cons (pf_var 2) pfa_nil)) (pf_var 4)) (pw_or1F (pt_cmpF (o_ne hr.units) a_ne (pf_callB call_len_seq a_len rfl T.b_len boot_len (pfa_cons (pf_var 3) pfa_nil)) (pf_var 4)))))) (pxs_one (px_raise V.own excBase_ValueError rfl rfl (pj_lit (pj_int (pf_var 4) (pj_lit pj_nil))))) pxs_nil))))
noncomputable abbrev s_check_rows : Stmt := top 10
theorem fs_check_rows : FnScope N_check_rows ["rows", "width", "what"] (defScope s_check_rows) := ⟨rfl, rfl, rfl, by decide +kernel, rfl, by decide +kernel, by decide +kernel⟩
theorem t_check_rows (T : Txt K mg C) (V : Exn K mg base CB CR C1 C2)  {f : Addr} (cdv : Value) (A : Around) (outer : List Env) (s : Shared) (H : Hp) (E : XK) (hr : Room 0 (A.deeper (PyProof.Rows.envOfC "check_rows" (defScope s_check_rows) s.heap.objs.size f cdv))) :
    PFXs (cxOf (CX1 P w) P w K mg base N_check_rows "check_rows" (defScope s_check_rows) f cdv A outer s H E) K (defBody s_check_rows) (x_check_rows CB) :=
  (pxs_one (px_for rfl (pi_listF (pf_var 0)) (pg_nameF 3 fs_check_rows.nd) (pxs_one (px_if (pt_cmpF (o_ne hr.units) a_ne (pf_callB call_len_seq a_len rfl T.b_len boot_len (pfa_cons (pf_var 3) pfa_nil)) (pf_var 1)) (pxs_one (px_raise V.own excBase_ValueError rfl rfl (pj_lit (pj_str (pf_var 2) (pj_lit (pj_int (pf_var 1) (pj_lit pj_nil))))))) pxs_nil))))
noncomputable abbrev s_check_signs : Stmt := top 11
theorem fs_check_signs : FnScope N_check_signs ["signs"] (defScope s_check_signs) := ⟨rfl, rfl, rfl, by decide +kernel, rfl, by decide +kernel, by decide +kernel⟩
theorem t_check_signs (T : Txt K mg C) (V : Exn K mg base CB CR C1 C2) (d_check_rows : Dx P w K mg base 1 "check_rows" ["rows", "width", "what"] (FX_check_rows CB)) {f : Addr} (cdv : Value) (A : Around) (outer : List Env) (s : Shared) (H : Hp) (E : XK) (hr : Room 1 (A.deeper (PyProof.Rows.envOfC "check_signs" (defScope s_check_signs) s.heap.objs.size f cdv))) :
    PFXs (cxOf (CX1 P w) P w K mg base N_check_signs "check_signs" (defScope s_check_signs) f cdv A outer s H E) K (defBody s_check_signs) (x_check_signs CB) :=
  (pxs_cons (px_lift (ps_setF 1 fs_check_signs.nd (pf_callB call_len_seq a_len rfl T.b_len boot_len (pfa_cons (pf_ix (pf_var 0) pf_int) pfa_nil)))) (pxs_cons (px_if (PFW.pt (pw_orF (pt_cmpF op_lt a_lt (pf_var 1) pf_int) (pw_or1F (pt_cmpF op_gt a_gt (pf_var 1) (pf_globE rfl T.c_MOST_SIGNS))))) (pxs_one (px_raise V.own excBase_ValueError rfl rfl (pj_lit (pj_int (pf_globE rfl T.c_MOST_SIGNS) (pj_lit (pj_int (pf_var 1) pj_nil)))))) pxs_nil) (pxs_one (px_call (d_check_rows.mono (by decide)) hr rfl (pfa_cons (pf_var 0) (pfa_cons (pf_var 1) (pfa_cons pf_str pfa_nil)))))))
noncomputable abbrev s_Lcell : Stmt := top 13
theorem fs_Lcell : FnScope N_Lcell ["_law_script", "_law_k"] (defScope s_Lcell) := ⟨rfl, rfl, rfl, by decide +kernel, rfl, by decide +kernel, by decide +kernel⟩
theorem t_Lcell (T : Txt K mg C)  {f : Addr} (cdv : Value) (A : Around) (outer : List Env) (s : Shared) (H : Hp) (E : XK) (hr : Room 0 (A.deeper (PyProof.Rows.envOfC "_law_cell" (defScope s_Lcell) s.heap.objs.size f cdv))) :
    PFSs (cxOf CX0 P w K mg base N_Lcell "_law_cell" (defScope s_Lcell) f cdv A outer s H E).nox K (defBody s_Lcell) (g_Lcell) :=
  (pss_consF (ps_ifF (pt_truF (pf_var 0)) (pss_oneF (ps_retF (pf_ix (pf_var 0) (pf_op op_mod a_mod (pf_var 1) (pf_callB call_len_seq a_len rfl T.b_len boot_len (pfa_cons (pf_var 0) pfa_nil)))))) pss_nilF) (pss_oneF (ps_retF pf_int)))
noncomputable abbrev s_Lmix : Stmt := top 14
theorem fs_Lmix : FnScope N_Lmix ["_law_script", "_law_k"] (defScope s_Lmix) := ⟨rfl, rfl, rfl, by decide +kernel, rfl, by decide +kernel, by decide +kernel⟩
theorem t_Lmix (T : Txt K mg C) (d__law_cell : Df P w K mg base 1 "_law_cell" ["_law_script", "_law_k"] F_Lcell) {f : Addr} (cdv : Value) (A : Around) (outer : List Env) (s : Shared) (H : Hp) (E : XK) (hr : Room 1 (A.deeper (PyProof.Rows.envOfC "_law_mix" (defScope s_Lmix) s.heap.objs.size f cdv))) :
    PFSs (cxOf CX0 P w K mg base N_Lmix "_law_mix" (defScope s_Lmix) f cdv A outer s H E).nox K (defBody s_Lmix) (g_Lmix) :=
  (pss_consF (ps_setF 2 fs_Lmix.nd (pf_op op_mod a_mod (pf_op o_add a_add (pf_call (d__law_cell.mono (by decide)) hr rfl (pfa_cons (pf_var 0) (pfa_cons (pf_var 1) pfa_nil))) (pf_op o_mul a_mul pf_int (pf_op o_add a_add (pf_var 1) pf_int))) pf_int)) (pss_consF (ps_setF 2 fs_Lmix.nd (pf_op op_mod a_mod (pf_op o_mul a_mul (pf_var 2) pf_int) pf_int)) (pss_oneF (ps_retF (pf_op op_mod a_mod (pf_op o_add a_add (pf_op o_mul a_mul (pf_op op_fdiv a_fdiv (pf_var 2) pf_int) pf_int) (pf_var 2)) pf_int)))))
noncomputable abbrev s_Lwhole : Stmt := top 15
theorem fs_Lwhole : FnScope N_Lwhole ["_law_found"] (defScope s_Lwhole) := ⟨rfl, rfl, rfl, by decide +kernel, rfl, by decide +kernel, by decide +kernel⟩
theorem t_Lwhole (T : Txt K mg C)  {f : Addr} (cdv : Value) (A : Around) (outer : List Env) (s : Shared) (H : Hp) (E : XK) (hr : Room 0 (A.deeper (PyProof.Rows.envOfC "_law_whole" (defScope s_Lwhole) s.heap.objs.size f cdv))) :
    PFSs (cxOf CX0 P w K mg base N_Lwhole "_law_whole" (defScope s_Lwhole) f cdv A outer s H E).nox K (defBody s_Lwhole) (g_Lwhole) :=
  (pss_oneF (ps_retF (pf_and (pf_inst rfl T.b_isinstance rfl T.b_int boot_int T.kit_int (pf_var 0)) (pf_one (pf_not (pf_inst rfl T.b_isinstance rfl T.b_bool boot_bool T.kit_bool (pf_var 0)))))))
noncomputable abbrev s_law : Stmt := top 16
theorem fs_law : FnScope N_law ["_law_script"] (defScope s_law) := ⟨rfl, rfl, rfl, by decide +kernel, rfl, by decide +kernel, by decide +kernel⟩
noncomputable abbrev sc_law_0 : Scope := { kind := .function, names := [(Str.ofString ".0", NameKind.local), (Str.ofString "_law_one", NameKind.local), (Str.ofString "len", NameKind.globalImplicit), (Str.ofString "_law_many", NameKind.free)], isGenerator := false, isCoroutine := false, more := [] }
theorem S_law_0 : CScopeN (defScope s_law) [("_law_script" : Str), ("_law_many" : Str), ("_law_wide" : Str), ("_law_lists" : Str), ("_law_way" : Str), ("_law_turn" : Str), ("_law_at" : Str), ("_law_good" : Str), ("_law_kept" : Str), ("_law_chain" : Str), ("e" : Str), ("_law_told" : Str)] sc_law_0 [("_law_one" : Str)] [(("_law_many" : Str), 1)] := ⟨rfl, by decide +kernel, by decide +kernel, by decide +kernel, by decide +kernel, by decide +kernel⟩
noncomputable abbrev sc_law_1 : Scope := { kind := .function, names := [(Str.ofString ".0", NameKind.local), (Str.ofString "_law_row", NameKind.local), (Str.ofString "len", NameKind.globalImplicit), (Str.ofString "_law_many", NameKind.free)], isGenerator := false, isCoroutine := false, more := [] }
theorem S_law_1 : CScopeN (defScope s_law) [("_law_script" : Str), ("_law_many" : Str), ("_law_wide" : Str), ("_law_lists" : Str), ("_law_way" : Str), ("_law_turn" : Str), ("_law_at" : Str), ("_law_good" : Str), ("_law_kept" : Str), ("_law_chain" : Str), ("e" : Str), ("_law_told" : Str)] sc_law_1 [("_law_row" : Str)] [(("_law_many" : Str), 1)] := ⟨rfl, by decide +kernel, by decide +kernel, by decide +kernel, by decide +kernel, by decide +kernel⟩
noncomputable abbrev sc_law_2 : Scope := { kind := .function, names := [(Str.ofString ".0", NameKind.local), (Str.ofString "_law_row", NameKind.local), (Str.ofString "len", NameKind.globalImplicit), (Str.ofString "_law_lists", NameKind.free)], isGenerator := false, isCoroutine := false, more := [] }
theorem S_law_2 : CScopeN (defScope s_law) [("_law_script" : Str), ("_law_many" : Str), ("_law_wide" : Str), ("_law_lists" : Str), ("_law_way" : Str), ("_law_turn" : Str), ("_law_at" : Str), ("_law_good" : Str), ("_law_kept" : Str), ("_law_chain" : Str), ("e" : Str), ("_law_told" : Str)] sc_law_2 [("_law_row" : Str)] [(("_law_lists" : Str), 3)] := ⟨rfl, by decide +kernel, by decide +kernel, by decide +kernel, by decide +kernel, by decide +kernel⟩
theorem t_law (T : Txt K mg C) (V : Exn K mg base CB CR C1 C2) (d_Chain : Dk P w K mg base 3 "Chain" C ps_Chain ns_Chain (FM_Chain C CB)) (d__law_whole : Df P w K mg base 1 "_law_whole" ["_law_found"] F_Lwhole) (d_size : Dm P w K mg base 1 C "size" ["self"] (F_size C)) {f : Addr} (cdv : Value) (A : Around) (outer : List Env) (s : Shared) (H : Hp) (E : XK) (hr : Room 4 (A.deeper (PyProof.Rows.envOfC "law" (defScope s_law) s.heap.objs.size f cdv))) :
    PFSs (cxOf CX0 P w K mg base N_law "law" (defScope s_law) f cdv A outer s H E).nox K ((defBody s_law).drop 5) (g_law C CB) :=
  (pss_consF (ps_setF 1 fs_law.nd (pf_callB call_len_seq a_len rfl T.b_len boot_len (pfa_cons (pf_ix (pf_var 3) pf_int) pfa_nil))) (pss_consF (ps_setF 7 fs_law.nd (pf_and (pf_chain op_le a_le op_le a_le pf_int (pf_var 1) pf_int) (pf_one (pf_callB (call_all_list rfl) a_all rfl T.b_all boot_all (pfa_cons (pf_comp rfl (S_law_0.at rfl rfl) (pi_listF (pf_var 3)) (fun s H pins fp => (pg_nameF 0 S_law_0.nd)) (fun s H pins fp => if_nil) (fun s H pins fp => (pf_cmp (o_eq hr.units) a_eq (pf_callB call_len_seq a_len rfl T.b_len boot_len (pfa_cons (pf_var 0) pfa_nil)) (pf_var 1)))) pfa_nil))))) (pss_consF (ps_setF 7 fs_law.nd (pf_and (pf_var 7) (pf_one (pf_callB (call_all_list rfl) a_all rfl T.b_all boot_all (pfa_cons (pf_comp rfl (S_law_1.at rfl rfl) (pi_listF (pf_ix (pf_var 3) pf_int)) (fun s H pins fp => (pg_nameF 0 S_law_1.nd)) (fun s H pins fp => if_nil) (fun s H pins fp => (pf_cmp (o_eq hr.units) a_eq (pf_callB call_len_seq a_len rfl T.b_len boot_len (pfa_cons (pf_var 0) pfa_nil)) (pf_var 1)))) pfa_nil))))) (pss_consF (ps_setF 7 fs_law.nd (pf_and (pf_var 7) (pf_and (pf_chain op_le a_le op_le a_le pf_int (pf_callB call_len_seq a_len rfl T.b_len boot_len (pfa_cons (pf_ix (pf_ix (pf_var 3) pf_int) pf_int) pfa_nil)) pf_int) (pf_one (pf_callB (call_all_list rfl) a_all rfl T.b_all boot_all (pfa_cons (pf_comp rfl (S_law_2.at rfl rfl) (pi_listF (pf_ix (pf_var 3) pf_int)) (fun s H pins fp => (pg_nameF 0 S_law_2.nd)) (fun s H pins fp => if_nil) (fun s H pins fp => (pf_cmp (o_eq hr.units) a_eq (pf_callB call_len_seq a_len rfl T.b_len boot_len (pfa_cons (pf_var 0) pfa_nil)) (pf_callB call_len_seq a_len rfl T.b_len boot_len (pfa_cons (pf_ix (pf_ix (pf_var 1) pf_int) pf_int) pfa_nil))))) pfa_nil)))))) (pss_consF (ps_setF 8 fs_law.nd pf_non) (pss_consF (ps_setF 9 fs_law.nd pf_non) (pss_consF (ps_tryF 9 8 10 rfl rfl (d_Chain.mono (by decide)) hr rfl (pfa_cons (pf_ix (pf_var 3) pf_int) (pfa_cons (pf_ix (pf_var 3) pf_int) (pfa_cons (pf_ix (pf_var 3) pf_int) (pfa_cons (pf_ix (pf_var 3) pf_int) pfa_nil)))) rfl V.e_ReadError (fun ds B h => exm_Chain V h) fs_law.nd (by decide)) (pss_consF (ps_ifF (pt_notF (pt_truF (pf_var 7))) (pss_consF (ps_setF 11 fs_law.nd (pf_and (pf_instX V.ik_BadChain rfl T.b_isinstance (pe_glob (v := .ref CB) rfl V.e_BadChain rfl) (fun u r => r) (pf_var 8)) (pf_one (pf_instX V.ik_ValueError rfl T.b_isinstance (pe_bltn (v := .ty "ValueError") rfl T.b_ValueError boot_ValueError rfl) (fun u r => r) (pf_var 8))))) (pss_oneF (ps_retF (pf_and (pf_var 11) (pf_one (pf_not (pf_instX2 V.ik_BadWords_BadGrammar rfl T.b_isinstance (pe_glob rfl V.e_BadWords rfl) (pe_glob rfl V.e_BadGrammar rfl) (pf_var 8)))))))) pss_nilF) (pss_oneF (ps_retF (pf_and (pf_cmp op_isN a_is (pf_var 8) pf_non) (pf_and (pf_call (d__law_whole.mono (by decide)) hr rfl (pfa_cons (pf_meth0 (pf_var 9) T.cl (d_size.mono (by decide)) hr) pfa_nil)) (pf_one (pf_cmp (o_eq hr.units) a_eq (pf_meth0 (pf_var 9) T.cl (d_size.mono (by decide)) hr) (pf_var 1)))))))))))))))
noncomputable abbrev sc_lawA_0 : Scope := { kind := .function, names := [(Str.ofString ".0", NameKind.local), (Str.ofString "_law_k", NameKind.local), (Str.ofString "_law_many", NameKind.free)], isGenerator := false, isCoroutine := false, more := [] }
theorem S_lawA_0 : CScopeN (defScope s_law) [("_law_script" : Str), ("_law_many" : Str), ("_law_wide" : Str), ("_law_lists" : Str), ("_law_way" : Str), ("_law_turn" : Str), ("_law_at" : Str), ("_law_good" : Str), ("_law_kept" : Str), ("_law_chain" : Str), ("e" : Str), ("_law_told" : Str)] sc_lawA_0 [("_law_k" : Str)] [(("_law_many" : Str), 1)] := ⟨rfl, by decide +kernel, by decide +kernel, by decide +kernel, by decide +kernel, by decide +kernel⟩
noncomputable abbrev sc_lawA_1 : Scope := { kind := .function, names := [(Str.ofString ".0", NameKind.local), (Str.ofString "_law_k", NameKind.local), (Str.ofString "_law_wide", NameKind.free)], isGenerator := false, isCoroutine := false, more := [] }
theorem S_lawA_1 : CScopeN (defScope s_law) [("_law_script" : Str), ("_law_many" : Str), ("_law_wide" : Str), ("_law_lists" : Str), ("_law_way" : Str), ("_law_turn" : Str), ("_law_at" : Str), ("_law_good" : Str), ("_law_kept" : Str), ("_law_chain" : Str), ("e" : Str), ("_law_told" : Str)] sc_lawA_1 [("_law_k" : Str)] [(("_law_wide" : Str), 2)] := ⟨rfl, by decide +kernel, by decide +kernel, by decide +kernel, by decide +kernel, by decide +kernel⟩
end
end CR
set_option maxHeartbeats 4000000
namespace CR
open PySem PySem.Spec L2 DL PyProof.Rows
theorem PF.pe {X : Cx} {K : PySem.W.Frag} {e : Expr} {f : Fe} (h : PF X K e f) (hK : X.K = K) : PE X e (tF K f) := h hK
theorem PFN.pe {X : Cx} {K : PySem.W.Frag} {e : Expr} {f : Fe} (h : PFN X K e f) (hK : X.K = K) : PE X e (tFN K f) := h hK
theorem PFT.pe {X : Cx} {K : PySem.W.Frag} {e : Expr} {f : Rho → Option Bool} (h : PFT X K e f) (hK : X.K = K) : PT X e (tFT K f) := h hK
theorem PFSs.pe {X : Cx} {K : PySem.W.Frag} {e : List Stmt} {f : Fs} (h : PFSs X K e f) (hK : X.K = K) : PSs X e (tFS K f) := h hK
theorem all_scal (cs : List (Option Int)) : (cs.map encC).all scalD = true := by
  rw [List.all_map, List.all_eq_true]
  intro c _
  cases c <;> rfl
theorem compD_copy {n : Nat} {ft : Ft} {f : Fe} {ρ : Rho} (sub : D → Rho) : ∀ (rs : List (List (Option Int))), (∀ r ∈ rs, ft (encL r) ρ = some (sub (encL r)) ∧ f (sub (encL r)) = some (encL r) ∧ reset n (sub (encL r)) = ρ) → compD n ft bTrue f (rs.map encL) ρ = some (rs.map encL)
  | [], _ => rfl
  | x :: xs, h => by
    obtain ⟨h1, h2, h3⟩ := h x List.mem_cons_self
    have ih := compD_copy sub xs fun y hy => h y (List.mem_cons_of_mem _ hy)
    show ((ft (encL x) ρ).bind fun ρ1 => (bTrue ρ1).bind fun b => if b then (f ρ1).bind fun y => (compD n ft bTrue f (xs.map encL) (reset n ρ1)).bind fun ys => some (y :: ys) else compD n ft bTrue f (xs.map encL) (reset n ρ1)) = _
    rw [h1]
    show ((f (sub (encL x))).bind fun y => (compD n ft bTrue f (xs.map encL) (reset n (sub (encL x)))).bind fun ys => some (y :: ys)) = _
    rw [h2, h3, ih]
    rfl
theorem listN (cs : List (Option Int)) : gListN [encL cs] = some (encL cs) := by
  show (if (cs.map encC).all scalD then some (D.lst (cs.map encC)) else none) = _
  rw [all_scal]
  rfl
theorem sl2 : 1000 ≤ sizeLine := by decide
theorem copyLL {fr : List (Str × Nat)} {f : Fe} {ρ : Rho} (rs : List (List (Option Int))) (hl : rs.length ≤ 1000) (hf : f ρ = some (encLL rs)) (hr : rhoIn 1 fr ρ = [none]) : fComp 1 fr (iLst f) (tName 0) bTrue (fA gListN (aCons (fVar 0) aNil)) ρ = some (encLL rs) := by
  have sl' := sl2
  unfold fComp
  have e1 : iLst f ρ = some (rs.map encL) := by unfold iLst; rw [hf]; rfl
  rw [e1]
  show (if (rs.map encL).length ≤ sizeLine then (compD 1 (tName 0) bTrue (fA gListN (aCons (fVar 0) aNil)) (rs.map encL) (rhoIn 1 fr ρ)).bind fun ys => some (D.lst ys) else none) = _
  rw [if_pos (by rw [List.length_map]; lia), hr, compD_copy (fun d => [some (.val d)]) rs fun r _ => ⟨rfl, by show (gListN [encL r]) = _; exact listN r, rfl⟩]
  rfl
theorem wf_of' {c : Ch} (h : wfB c = true) : Wf c := by
  unfold wfB at h
  simp only [Bool.and_eq_true, decide_eq_true_eq, beq_iff_eq, List.all_eq_true] at h
  obtain ⟨⟨⟨⟨⟨⟨h1, h2⟩, h3⟩, h4⟩, h5⟩, h6⟩, h7⟩ := h
  refine ⟨h1, h2, h3, h4, h5, h6, ?_⟩
  split at h7
  · cases h7
  · rename_i r rs hs
    simp only [Bool.and_eq_true, decide_eq_true_eq, List.all_eq_true, beq_iff_eq] at h7
    exact ⟨r.length, h7.1.1, h7.1.2, fun q hq => h7.2 q hq⟩
structure Mid (K : PySem.W.Frag) (C dx x : Addr) (Hs H : Hp) (ρ : Rho) (σ : L2.St) (fs : List (Str × V)) (Hs' H' : Hp) : Prop where
  st : StE K Hs' H' ρ σ
  keep : ∀ b o, b ≠ x → H b = some o → H' b = some o
  hs : Same Hs Hs'
  new : ∀ b, Hs' b ≠ none → Hs b = none → H b = none
  nx : Hs' x = none
  obj : H' x = some (.ins C dx fs)
section
variable {K : PySem.W.Frag} {C dx x : Addr} {Hs H Hs' H' Hs2 H2 : Hp} {ρ : Rho} {σ : L2.St} {fs : List (Str × V)}
theorem Mid.nn (m : Mid K C dx x Hs H ρ σ fs Hs' H') : ∀ b, H' b = none → H b = none := fun b hb => by
  by_cases q : b = x
  · rw [q, m.obj] at hb; cases hb
  · cases z : H b with
    | none => rfl
    | some o => rw [m.keep b o q z] at hb; cases hb
theorem Mid.grow (m : Mid K C dx x Hs H ρ σ fs Hs' H') (g : Grow Hs' H' Hs2 H2) : Mid K C dx x Hs H ρ σ fs Hs2 H2 := by
  refine ⟨m.st.grow g, fun b o q e => g.h b o (m.keep b o q e), m.hs.trans g.hs, fun b hb e => ?_, ?_, g.h _ _ m.obj⟩
  · cases z : Hs' b with
    | some o => exact m.new b (by rw [z]; simp) e
    | none => exact m.nn b (g.new b hb z)
  · cases z : Hs2 x with
    | none => rfl
    | some o =>
      have := g.new x (by rw [z]; simp) m.nx
      rw [m.obj] at this; cases this
theorem Mid.put (m : Mid K C dx x Hs H ρ σ fs Hs' H') (fs' : List (Str × V)) (no : ∀ (i : Nat) (ds : List D), ρ[i]? ≠ some (some (.own ds))) : Mid K C dx x Hs H ρ σ fs' Hs' (upd H' x (.ins C dx fs')) := by
  refine ⟨⟨sm_updR m.st.sub m.nx, m.st.len, fun i s e => ?_⟩, fun b o q e => by rw [upd_ne q]; exact m.keep b o q e, m.hs, m.new, m.nx, upd_same⟩
  obtain ⟨v, h1, h2⟩ := m.st.slot i s e
  cases s with
  | val d => exact ⟨v, h1, h2⟩
  | own ds => exact absurd e (no i ds)
theorem Mid.rep (m : Mid K C dx x Hs H ρ σ fs Hs' H') {d : D} {v : V} {Hs3 Hs4 : Hp} (r : Rep K (newOnly H' Hs3) d v) (s : Same Hs3 Hs4) : Rep K (newOnly H Hs4) d v := r.mono fun b o e => by
  unfold newOnly at e ⊢
  split at e
  · rename_i q
    rw [m.nn b q]
    exact s b o e
  · cases e
end
section
variable {P : Program} {w : World} {K : PySem.W.Frag} {mg : Str → Option Value} {base : Heap} {C CB : Addr}
theorem putF_eq {f g : Str} {v : V} : ∀ {fs : List (Str × V)}, f ∉ fs.map (·.1) → putF f v fs = fs ++ [(f, v)]
  | [], _ => rfl
  | (n, u) :: fs, h => by
    rw [List.map_cons, List.mem_cons] at h
    show (if n = f then (n, v) :: fs else (n, u) :: putF f v fs) = _
    rw [if_neg fun e => h (.inl e.symm), putF_eq (g := g) fun z => h (.inr z)]
    rfl
noncomputable def tCX (K : PySem.W.Frag) (F : List D → Option Rx) (as : Rho → Option (List D)) (E : XK) : TE := fun σ H Q => ∃ ρ Hs ds r, StE K Hs H ρ σ ∧ as ρ = some ds ∧ F ds = some r ∧ rEnd K Hs H Q E r
theorem pe_callX {X : Cx} {E : XK} {k : Nat} {x : Str} {ps : List Str} {F : List D → Option Rx} {p pos : Pos} {e : Expr} {es : List Expr} {as : Rho → Option (List D)} (T : Thr X E) (hd : Dx X.prog X.w X.K X.mg X.base k x ps F) (hr : Room k X.A) (hg : Gl X x) (ha : PFA X X.K (e :: es) as)
    (hdb : (x == ("__debug__" : Str)) = false := by decide) (he : starEach (e :: es) X.env = (false, eval e X.env) :: starEach es X.env := by rfl) (hpl : (backTo pos (starEach es X.env)).any (·.1) = false := by rfl) :
    PE X (.Call (.Name x p) (e :: es) [] pos) (tCX X.K F as E) := by
  obtain ⟨fa, fd, h1, h2, h3, h4⟩ := hd.ex
  refine PE.imp (pe_call h4 hr hg h1 h2 h3 .nil T.pas (ha rfl) hdb he hpl) fun σ H Q ⟨ρ, Hs, ds, r, st, e1, e2, k⟩ => ?_
  refine ⟨ρ, Hs, ds, st, e1, fun vs H' Hs' g rv => ?_⟩
  show spX X.K F (vs ++ []) H' _ E
  rw [List.append_nil]
  refine ⟨Hs', ds, r, g.sub, rv, e2, ?_⟩
  cases r with
  | val d => exact fun v H2 Hs2 g2 rp => k v H2 Hs2 (g.trans g2) rp
  | xr C => exact fun H2 Hs2 g2 => k H2 Hs2 (g.trans g2)
theorem Mid.mid {K : PySem.W.Frag} {C dx x : Addr} {Hs H Hs' H' : Hp} {ρ : Rho} {σ : L2.St} {fs : List (Str × V)} (m : Mid K C dx x Hs H ρ σ fs Hs' H') : MidH x Hs H Hs' H' := ⟨m.keep, m.hs, m.new, m.st.sub, m.nx⟩
theorem small_of {c : Ch} (h : smallB c = true) : c.starts.length ≤ 1000 ∧ c.steps.length ≤ 1000 ∧ c.signs.length ≤ 1000 ∧ ∀ r ∈ c.signs, r.length ≤ 1000 := by
  unfold smallB at h
  simp only [Bool.and_eq_true, decide_eq_true_eq, List.all_eq_true] at h
  exact ⟨h.1.1.1, h.1.1.2, h.1.2, h.2⟩
theorem all_isL (rs : List (List (Option Int))) : (rs.map encL).all isL = true := by
  rw [List.all_map, List.all_eq_true]
  intro r _
  rfl
theorem len_allI {w : Nat} {rs : List (List (Option Int))} : (rs.map encL).all (lenIs (w : Int)) = true ↔ ∀ r ∈ rs, r.length = w := by
  rw [List.all_map, List.all_eq_true]
  constructor
  · intro h r hr
    have := of_decide_eq_true (p := ((r.map encC).length : Int) = w) (h r hr)
    rw [List.length_map] at this
    lia
  · intro h r hr
    refine decide_eq_true ?_
    show ((r.map encC).length : Int) = w
    rw [List.length_map, h r hr]
theorem chk1 {CB : Addr} {c : Ch} (h : c.starts.length ≤ 1000) : FX_check_states CB [encL c.starts, encLL c.steps, encLL c.signs, encL c.ends] = some (if 1 ≤ c.starts.length ∧ c.starts.length ≤ 8 ∧ c.steps.length = c.starts.length ∧ c.signs.length = c.starts.length ∧ c.ends.length = c.starts.length then .val .non else .xr CB) := by
  show (if (c.starts.map encC).length ≤ 1000 then (if 1 ≤ (c.starts.map encC).length ∧ (c.starts.map encC).length ≤ 8 ∧ (c.steps.map encL).length = (c.starts.map encC).length ∧ (c.signs.map encL).length = (c.starts.map encC).length ∧ (c.ends.map encC).length = (c.starts.map encC).length then some (Rx.val .non) else some (.xr CB)) else none) = _
  simp only [List.length_map]
  rw [if_pos h]
  split <;> rfl
theorem chk2 {CB : Addr} {c : Ch} (h : c.starts.length ≤ 1000) : FX_check_rows CB [encLL c.steps, .int c.starts.length, .str "steps"] = some (if ∀ r ∈ c.steps, r.length = c.starts.length then .val .non else .xr CB) := by
  show (if (0 ≤ (c.starts.length : Int) ∧ (c.starts.length : Int) ≤ 1000 ∧ ("steps" : Str).length ≤ 1000) ∧ (c.steps.map encL).all isL = true then (if (c.steps.map encL).all (lenIs (c.starts.length : Int)) then some (Rx.val .non) else some (.xr CB)) else none) = _
  rw [if_pos ⟨⟨by lia, by lia, by decide⟩, all_isL _⟩]
  by_cases q : ∀ r ∈ c.steps, r.length = c.starts.length
  · rw [if_pos (len_allI.mpr q), if_pos q]
  · rw [if_neg fun z => q (len_allI.mp z), if_neg q]
theorem chk3 {CB : Addr} {r0 : List (Option Int)} {rs : List (List (Option Int))} (h : r0.length ≤ 1000) : FX_check_signs CB [encLL (r0 :: rs)] = some (if 1 ≤ r0.length ∧ r0.length ≤ 8 ∧ ∀ r ∈ rs, r.length = r0.length then .val .non else .xr CB) := by
  show (if (r0.map encC).length ≤ 1000 ∧ (rs.map encL).all isL = true then (if 1 ≤ (r0.map encC).length ∧ (r0.map encC).length ≤ 8 ∧ (rs.map encL).all (lenIs ((r0.map encC).length : Int)) then some (Rx.val .non) else some (.xr CB)) else none) = _
  simp only [List.length_map]
  rw [if_pos ⟨h, all_isL _⟩]
  by_cases q : 1 ≤ r0.length ∧ r0.length ≤ 8 ∧ ∀ r ∈ rs, r.length = r0.length
  · rw [if_pos ⟨q.1, q.2.1, len_allI.mpr q.2.2⟩, if_pos q]
  · rw [if_neg fun z => q ⟨z.1, z.2.1, len_allI.mp z.2.2⟩, if_neg q]
theorem wf_iff {c : Ch} : wfB c = true ↔ ((1 ≤ c.starts.length ∧ c.starts.length ≤ 8 ∧ c.steps.length = c.starts.length ∧ c.signs.length = c.starts.length ∧ c.ends.length = c.starts.length) ∧ (∀ r ∈ c.steps, r.length = c.starts.length) ∧ ∃ r0 rs, c.signs = r0 :: rs ∧ 1 ≤ r0.length ∧ r0.length ≤ 8 ∧ ∀ r ∈ rs, r.length = r0.length) := by
  unfold wfB
  simp only [Bool.and_eq_true, decide_eq_true_eq, beq_iff_eq, List.all_eq_true]
  constructor
  · rintro ⟨⟨⟨⟨⟨⟨h1, h2⟩, h3⟩, h4⟩, h5⟩, h6⟩, h7⟩
    refine ⟨⟨h1, h2, h3, h4, h5⟩, h6, ?_⟩
    split at h7
    · cases h7
    · rename_i r rs hs
      simp only [Bool.and_eq_true, decide_eq_true_eq, List.all_eq_true, beq_iff_eq] at h7
      exact ⟨r, rs, hs, h7.1.1, h7.1.2, fun q hq => h7.2 q (by rw [hs]; exact List.mem_cons_of_mem _ hq)⟩
  · rintro ⟨⟨h1, h2, h3, h4, h5⟩, h6, r0, rs, hs, h7, h8, h9⟩
    refine ⟨⟨⟨⟨⟨⟨h1, h2⟩, h3⟩, h4⟩, h5⟩, h6⟩, ?_⟩
    rw [hs]
    simp only [Bool.and_eq_true, decide_eq_true_eq, List.all_eq_true, beq_iff_eq]
    refine ⟨⟨h7, h8⟩, fun q hq => ?_⟩
    rcases List.mem_cons.mp hq with z | z
    · rw [z]
    · exact h9 q z
theorem ok_initX {f : Addr} {fd : FuncData} (U : Fun K "__init__" "Chain.__init__" s_init f fd) (T : Txt K mg C) (tl : mg "list" = none) (n1 : NoAttr K C "starts") (n2 : NoAttr K C "steps") (n3 : NoAttr K C "signs") (n4 : NoAttr K C "ends")
    (d_check_states : Dx P w K mg base 1 "check_states" ["starts", "steps", "signs", "ends"] (FX_check_states CB)) (d_check_rows : Dx P w K mg base 1 "check_rows" ["rows", "width", "what"] (FX_check_rows CB)) (d_check_signs : Dx P w K mg base 2 "check_signs" ["signs"] (FX_check_signs CB)) :
    FnOk P w K mg base (CX1 P w) 3 f fd ps_Chain (spMk K C chNs (FM_Chain C CB)) := by
  obtain ⟨oc, od, kV, doc, pm, an, cdv, ct, osl, rfl, lk, hcd⟩ := U.ex
  refine fn_of lk hcd fs_init (fun vs H Q E h => ?_) (fun A outer s H vs Q E hr h => ?_)
  · obtain ⟨x, dx, Hs, ds, us, r, rfl, _, _, _, rr, e, _⟩ := h
    rw [List.length_cons, ← rr.length]
    unfold FM_Chain at e
    split at e
    · rfl
    · cases e
  · obtain ⟨x, dx, Hs, ds, us, res, rfl, hx, hsx, sm, r, eF, k⟩ := h
    unfold FM_Chain at eF
    split at eF
    case h_2 => cases eF
    rename_i a0 b0 c0 d0
    obtain ⟨a', q1, eF⟩ := bind1 eF
    obtain ⟨b', q2, eF⟩ := bind1 eF
    obtain ⟨c', q3, eF⟩ := bind1 eF
    obtain ⟨d', q4, eF⟩ := bind1 eF
    rw [decL_enc q1, decLL_enc q2, decLL_enc q3, decL_enc q4] at r
    obtain ⟨ch, hch⟩ : ∃ ch : Ch, ch = ⟨a', b', c', d'⟩ := ⟨_, rfl⟩
    have hsm : smallB ch = true := by
      rw [hch]
      by_cases q : smallB ⟨a', b', c', d'⟩ = true
      · exact q
      · rw [if_neg q] at eF; cases eF
    rw [← hch, if_pos hsm] at eF
    replace r : Reps K Hs [encL ch.starts, encLL ch.steps, encLL ch.signs, encL ch.ends] us := by rw [hch]; exact r
    replace eF : (if wfB ch = true then some (Sum.inl [encL ch.starts, encLL ch.steps, encLL ch.signs, encL ch.ends]) else some (Sum.inr CB)) = some res := by rw [hch] at eF ⊢; exact eF
    clear q1 q2 q3 q4 hch
    obtain ⟨b1, b2, b3, b4⟩ := small_of hsm
    have sl' := sl2
    refine ⟨_, pss_cons (ps_expr (pe_callX thr_cx (d_check_states.mono (by decide)) hr rfl (pfa_cons (pf_var 1) (pfa_cons (pf_var 2) (pfa_cons (pf_var 3) (pfa_cons (pf_var 4) pfa_nil))))))
      (pss_cons (ps_expr (pe_callX thr_cx (d_check_rows.mono (by decide)) hr rfl (pfa_cons (pf_var 2) (pfa_cons (pf_callB call_len_seq a_len rfl T.b_len boot_len (pfa_cons (pf_var 1) pfa_nil)) (pfa_cons pf_str pfa_nil)))))
      (pss_cons (ps_expr (pe_callX thr_cx (d_check_signs.mono (by decide)) hr rfl (pfa_cons (pf_var 3) pfa_nil)))
      (pss_cons (ps_fld (pv 0) (PFN.pe (K := K) (pfn_list rfl tl (pfa_cons (pf_var 1) pfa_nil)) rfl) rfl)
      (pss_cons (ps_fld (pv 0) (PFN.pe (K := K) (pfn_comp rfl (S_init_0.at rfl rfl) (pi_listF (pf_var 2)) (fun s H pins fp => pg_nameF 0 S_init_0.nd) (fun s H pins fp => if_nil) (fun s H pins fp => pfn_list rfl tl (pfa_cons (pf_var 0) pfa_nil))) rfl) rfl)
      (pss_cons (ps_fld (pv 0) (PFN.pe (K := K) (pfn_comp rfl (S_init_1.at rfl rfl) (pi_listF (pf_var 3)) (fun s H pins fp => pg_nameF 0 S_init_1.nd) (fun s H pins fp => if_nil) (fun s H pins fp => pfn_list rfl tl (pfa_cons (pf_var 0) pfa_nil))) rfl) rfl)
      (pss_one (ps_fld (pv 0) (PFN.pe (K := K) (pfn_list rfl tl (pfa_cons (pf_var 4) pfa_nil)) rfl) rfl))))))), ?_⟩
    cases r with
    | @cons _ v1 _ us r1 r =>
      cases r with
      | @cons _ v2 _ us r2 r =>
        cases r with
        | @cons _ v3 _ us r3 r =>
          cases r with
          | @cons _ v4 _ us r4 r =>
            cases r
            have no : ∀ (i : Nat) (ds : List D), ([none, some (.val (encL ch.starts)), some (.val (encLL ch.steps)), some (.val (encLL ch.signs)), some (.val (encL ch.ends))] : Rho)[i]? ≠ some (some (.own ds)) := fun i ds e => by
              match i, e with
              | 0, e => cases e
              | 1, e => cases e
              | 2, e => cases e
              | 3, e => cases e
              | 4, e => cases e
            have m0 : Mid K C dx x Hs H [none, some (.val (encL ch.starts)), some (.val (encLL ch.steps)), some (.val (encLL ch.signs)), some (.val (encL ch.ends))] [some (.ref x), some v1, some v2, some v3, some v4] [] Hs H := by
              refine ⟨⟨sm, rfl, fun i t e => ?_⟩, fun _ _ _ e => e, Same.refl _, fun b h e => absurd e h, hsx, hx⟩
              match i, e with
              | 0, e => cases e
              | 1, e => cases e; exact ⟨_, rfl, r1⟩
              | 2, e => cases e; exact ⟨_, rfl, r2⟩
              | 3, e => cases e; exact ⟨_, rfl, r3⟩
              | 4, e => cases e; exact ⟨_, rfl, r4⟩
            show tSeq _ _ _ [some (.ref x), some v1, some v2, some v3, some v4] H
            by_cases c1 : 1 ≤ ch.starts.length ∧ ch.starts.length ≤ 8 ∧ ch.steps.length = ch.starts.length ∧ ch.signs.length = ch.starts.length ∧ ch.ends.length = ch.starts.length
            case neg =>
              rw [if_neg fun z => c1 (wf_iff.mp z).1] at eF
              cases eF
              exact ⟨_, _, _, .xr CB, m0.st, rfl, (chk1 b1).trans (by rw [if_neg c1]), fun H1 Hs1 g1 => k H1 Hs1 (m0.grow g1).mid (m0.grow g1).obj⟩
            refine ⟨_, _, _, .val .non, m0.st, rfl, (chk1 b1).trans (by rw [if_pos c1]), fun _ H1 Hs1 g1 _ => ?_⟩
            have m1 := m0.grow g1
            by_cases c2 : ∀ r ∈ ch.steps, r.length = ch.starts.length
            case neg =>
              rw [if_neg fun z => c2 (wf_iff.mp z).2.1] at eF
              cases eF
              exact ⟨_, _, _, .xr CB, m1.st, by show some [encLL ch.steps, D.int ((ch.starts.map encC).length : Int), .str "steps"] = some _; rw [List.length_map], (chk2 b1).trans (by rw [if_neg c2]), fun H1 Hs1 g1 => k H1 Hs1 (m1.grow g1).mid (m1.grow g1).obj⟩
            refine ⟨_, _, _, .val .non, m1.st, by show some [encLL ch.steps, D.int ((ch.starts.map encC).length : Int), .str "steps"] = some _; rw [List.length_map], (chk2 b1).trans (by rw [if_pos c2]), fun _ H2 Hs2 g2 _ => ?_⟩
            have m2 := m1.grow g2
            obtain ⟨r0, rs, hs⟩ : ∃ r rs, ch.signs = r :: rs := by
              cases q : ch.signs with
              | nil => have z := c1; rw [q] at z; simp at z; lia
              | cons r rs => exact ⟨r, rs, rfl⟩
            by_cases c3 : 1 ≤ r0.length ∧ r0.length ≤ 8 ∧ ∀ r ∈ rs, r.length = r0.length
            case neg =>
              rw [if_neg fun z => c3 (by
                obtain ⟨r1, rs1, e1, z1, z2, z3⟩ := (wf_iff.mp z).2.2
                rw [hs] at e1
                cases e1
                exact ⟨z1, z2, z3⟩)] at eF
              cases eF
              exact ⟨_, _, _, .xr CB, m2.st, rfl, (by rw [hs]; exact (chk3 (b4 r0 (by rw [hs]; exact List.mem_cons_self))).trans (by rw [if_neg c3])), fun H1 Hs1 g1 => k H1 Hs1 (m2.grow g1).mid (m2.grow g1).obj⟩
            refine ⟨_, _, _, .val .non, m2.st, rfl, (by rw [hs]; exact (chk3 (b4 r0 (by rw [hs]; exact List.mem_cons_self))).trans (by rw [if_pos c3])), fun _ H3 Hs3 g3 _ => ?_⟩
            have m3 := m2.grow g3
            have hw : wfB ch = true := wf_iff.mpr ⟨c1, c2, r0, rs, hs, c3⟩
            rw [if_pos hw] at eF
            cases eF
            have W := wf_of' hw
            refine ⟨_, _, encL ch.starts, m3.st, listN _, fun y1 H4 Hs4 g4 q4 => ?_⟩
            have m4 := m3.grow g4
            refine ⟨_, rfl, x, C, dx, _, rfl, m4.obj, T.cl, n1, (by show 0 < 1000; decide), ?_⟩
            have m5 := m4.put [(("starts" : Str), y1)] no
            refine ⟨_, _, encLL ch.steps, m5.st, copyLL ch.steps (by have := W.steps; have := W.n8; lia) rfl rfl, fun y2 H6 Hs6 g6 q6 => ?_⟩
            have m6 := m5.grow g6
            refine ⟨_, rfl, x, C, dx, _, rfl, m6.obj, T.cl, n2, (by show 1 < 1000; decide), ?_⟩
            rw [show putF ("steps" : Str) y2 [(("starts" : Str), y1)] = [(("starts" : Str), y1), ("steps", y2)] from putF_eq (g := "steps") (by show ("steps" : Str) ∉ (["starts"] : List Str); decide +kernel)]
            have m7 := m6.put [(("starts" : Str), y1), ("steps", y2)] no
            refine ⟨_, _, encLL ch.signs, m7.st, copyLL ch.signs (by have := W.signs; have := W.n8; lia) rfl rfl, fun y3 H8 Hs8 g8 q8 => ?_⟩
            have m8 := m7.grow g8
            refine ⟨_, rfl, x, C, dx, _, rfl, m8.obj, T.cl, n3, (by show 2 < 1000; decide), ?_⟩
            rw [show putF ("signs" : Str) y3 [(("starts" : Str), y1), ("steps", y2)] = [(("starts" : Str), y1), ("steps", y2), ("signs", y3)] from putF_eq (g := "signs") (by show ("signs" : Str) ∉ (["starts", "steps"] : List Str); decide +kernel)]
            have m9 := m8.put [(("starts" : Str), y1), ("steps", y2), ("signs", y3)] no
            refine ⟨_, _, encL ch.ends, m9.st, listN _, fun y4 H10 Hs10 g10 q10 => ?_⟩
            have m10 := m9.grow g10
            refine ⟨_, rfl, x, C, dx, _, rfl, m10.obj, T.cl, n4, (by show 3 < 1000; decide), ?_⟩
            rw [show putF ("ends" : Str) y4 [(("starts" : Str), y1), ("steps", y2), ("signs", y3)] = [(("starts" : Str), y1), ("steps", y2), ("signs", y3), ("ends", y4)] from putF_eq (g := "ends") (by show ("ends" : Str) ∉ (["starts", "steps", "signs"] : List Str); decide +kernel)]
            have m11 := m10.put [(("starts" : Str), y1), ("steps", y2), ("signs", y3), ("ends", y4)] no
            refine k _ Hs10 _ m11.mid upd_same rfl ?_
            exact .cons (m3.rep q4 (((g6.hs.trans g8.hs)).trans g10.hs)) (.cons (m5.rep q6 (g8.hs.trans g10.hs)) (.cons (m7.rep q8 g10.hs) (.cons (m9.rep q10 (Same.refl _)) .nil)))
end
end CR
set_option maxHeartbeats 4000000
namespace CR
open PySem PySem.Spec L2 DL
noncomputable abbrev lst4 (c : Ch) : List D := [encL c.starts, encLL c.steps, encLL c.signs, encL c.ends]
theorem mapM_bl : ∀ (bs : List Bool), (bs.map D.bl).mapM asB = some bs
  | [] => rfl
  | b :: bs => by
    rw [List.map_cons, List.mapM_cons, mapM_bl bs]
    rfl
theorem gAll_bl (bs : List Bool) : gAll [.lst (bs.map D.bl)] = some (.bl (bs.all id)) := by
  show (((bs.map D.bl).mapM asB).map fun bs => D.bl (bs.all id)) = _
  rw [mapM_bl]
  rfl
theorem comp_len {f : Fe} {ρ1 : List (Option Sl)} {w : Int} (hf : ∀ d, f (some (.val d) :: ρ1) = some (.int w)) : ∀ (ds : List D), ds.all isL = true → compD 1 (tName 0) bTrue (f2 gEq (fA gLen (aCons (fVar 0) aNil)) f) ds (none :: ρ1) = some ((ds.map (lenIs w)).map D.bl)
  | [], _ => rfl
  | d :: ds, h => by
    rw [List.all_cons, Bool.and_eq_true] at h
    have ih := comp_len hf ds h.2
    cases d <;> first | (cases h.1; done) | skip
    rename_i xs
    have e1 : f2 gEq (fA gLen (aCons (fVar 0) aNil)) f (some (.val (.lst xs)) :: ρ1) = some (.bl (lenIs w (.lst xs))) := by
      refine (f2_eq rfl (hf _)).trans ?_
      show some (D.bl ((xs.length : Int) == w)) = _
      show _ = some (D.bl (decide ((xs.length : Int) = w)))
      by_cases z : (xs.length : Int) = w
      · rw [decide_eq_true z, z]; simp
      · rw [decide_eq_false z, beq_eq_false_iff_ne.mpr z]
    show ((f2 gEq (fA gLen (aCons (fVar 0) aNil)) f (some (.val (.lst xs)) :: ρ1)).bind fun y => (compD 1 (tName 0) bTrue (f2 gEq (fA gLen (aCons (fVar 0) aNil)) f) ds (none :: ρ1)).bind fun ys => some (y :: ys)) = _
    rw [e1, ih]
    rfl
theorem all_len {n : Nat} {fr : List (Str × Nat)} {fi : Fi} {f : Fe} {ρ : Rho} {ρ1 : List (Option Sl)} {w : Int} {ds : List D} (hi : fi ρ = some ds) (hz : ds.length ≤ 1000) (hr : rhoIn 1 fr ρ = none :: ρ1) (hf : ∀ d, f (some (.val d) :: ρ1) = some (.int w)) (hL : ds.all isL = true) :
    fA gAll (aCons (fComp 1 fr fi (tName 0) bTrue (f2 gEq (fA gLen (aCons (fVar 0) aNil)) f)) aNil) ρ = some (.bl (ds.all (lenIs w))) := by
  have sl' := sl
  rw [fA_eq (aCons_eq (fComp_eq hi (by lia) (by rw [hr]; exact comp_len hf ds hL)) rfl), gAll_bl, List.all_map]
  rfl
theorem fAnd_t {f h : Fe} {ρ : Rho} (e : f ρ = some (.bl true)) : fAnd f h ρ = h ρ := by unfold fAnd; rw [e]
theorem fAnd_f {f h : Fe} {ρ : Rho} (e : f ρ = some (.bl false)) : fAnd f h ρ = some (.bl false) := by unfold fAnd; rw [e]
theorem f3c_le {f h l : Fe} {ρ : Rho} {a b c : Int} (e1 : f ρ = some (.int a)) (e2 : h ρ = some (.int b)) (e3 : l ρ = some (.int c)) : f3c gLe gLe f h l ρ = some (.bl (decide (a ≤ b ∧ b ≤ c))) := by
  unfold f3c
  rw [e1, e2, e3]
  show (match some (D.bl (decide (a ≤ b))) with
    | some (.bl true) => (some (D.int c)).bind fun z => gLe (.int b) z
    | some (.bl false) => some (.bl false)
    | _ => none) = _
  by_cases z : a ≤ b
  · rw [decide_eq_true z]
    show some (D.bl (decide (b ≤ c))) = _
    by_cases y : b ≤ c
    · rw [decide_eq_true y, decide_eq_true ⟨z, y⟩]
    · rw [decide_eq_false y, decide_eq_false fun q => y q.2]
  · rw [decide_eq_false z, decide_eq_false fun q => z q.1]
theorem ix0 {d : D} {ds : List D} : gIx (.lst (d :: ds)) (.int 0) = some d := by
  show atI (d :: ds) ((0 : Nat) : Int) = _
  exact atI_nat rfl
theorem ix1 {d0 d : D} {ds : List D} : gIx (.lst (d0 :: d :: ds)) (.int 1) = some d := by
  show atI (d0 :: d :: ds) ((1 : Nat) : Int) = _
  exact atI_nat rfl
theorem ix2 {d0 d1 d : D} {ds : List D} : gIx (.lst (d0 :: d1 :: d :: ds)) (.int 2) = some d := by
  show atI (d0 :: d1 :: d :: ds) ((2 : Nat) : Int) = _
  exact atI_nat rfl
theorem ix3 {d0 d1 d2 d : D} {ds : List D} : gIx (.lst (d0 :: d1 :: d2 :: d :: ds)) (.int 3) = some d := by
  show atI (d0 :: d1 :: d2 :: d :: ds) ((3 : Nat) : Int) = _
  exact atI_nat rfl
theorem rest_true (c : Ch) (hs : smallB c = true) (C CB : Addr) : g_law C CB [none, none, none, some (.val (.lst (lst4 c))), none, none, none, none, none, none, none, none] = some (.rt (.bl true)) := by
  obtain ⟨b1, b2, b3, b4⟩ := small_of hs
  have n62 : (c.starts.length : Int) < 2 ^ 62 := by lia
  let L : Sl := .val (.lst (lst4 c))
  unfold g_law
  rw [gSeq_nx (ρ' := [none, some (.val (.int c.starts.length)), none, some L, none, none, none, none, none, none, none, none]) ((gSet_eq (d := .int c.starts.length) ((fA_eq (aCons_eq ((f2_eq rfl rfl).trans ix0) rfl)).trans (by show some (D.int ((c.starts.map encC).length : Int)) = _; rw [List.length_map]))).trans rfl)]
  let G1 : Bool := decide (1 ≤ c.starts.length ∧ c.starts.length ≤ 8 ∧ c.steps.length = c.starts.length ∧ c.signs.length = c.starts.length ∧ c.ends.length = c.starts.length)
  have hG1 : fAnd (f3c gLe gLe (fC (.int 1)) (fVar 1) (fC (.int 8))) (fA gAll (aCons (fComp 1 [(("_law_many" : Str), 1)] (iLst (fVar 3)) (tName 0) bTrue (f2 gEq (fA gLen (aCons (fVar 0) aNil)) (fVar 1))) aNil)) [none, some (.val (.int c.starts.length)), none, some L, none, none, none, none, none, none, none, none] = some (.bl G1) := by
    by_cases z : (1 : Int) ≤ c.starts.length ∧ (c.starts.length : Int) ≤ 8
    · rw [fAnd_t ((f3c_le rfl rfl rfl).trans (by rw [decide_eq_true z]))]
      refine (all_len (n := 1) (ρ1 := [some (.val (.int c.starts.length))]) (w := c.starts.length) (ds := lst4 c) rfl (by show 4 ≤ 1000; decide) rfl (fun _ => rfl) rfl).trans ?_
      congr 2
      show (decide (((c.starts.map encC).length : Int) = c.starts.length) && (decide (((c.steps.map encL).length : Int) = c.starts.length) && (decide (((c.signs.map encL).length : Int) = c.starts.length) && (decide (((c.ends.map encC).length : Int) = c.starts.length) && true)))) = _
      simp only [List.length_map]
      rw [Bool.eq_iff_iff]
      simp only [Bool.and_eq_true, decide_eq_true_eq, G1]
      lia
    · rw [fAnd_f ((f3c_le rfl rfl rfl).trans (by rw [decide_eq_false z]))]
      congr 2
      exact (decide_eq_false fun q => z ⟨by lia, by lia⟩).symm
  rw [gSeq_nx (ρ' := [none, some (.val (.int c.starts.length)), none, some L, none, none, none, some (.val (.bl G1)), none, none, none, none]) ((gSet_eq hG1).trans rfl)]
  let G2 : Bool := G1 && decide (∀ r ∈ c.steps, r.length = c.starts.length)
  have hG2 : fAnd (fVar 7) (fA gAll (aCons (fComp 1 [(("_law_many" : Str), 1)] (iLst (f2 gIx (fVar 3) (fC (.int 1)))) (tName 0) bTrue (f2 gEq (fA gLen (aCons (fVar 0) aNil)) (fVar 1))) aNil)) [none, some (.val (.int c.starts.length)), none, some L, none, none, none, some (.val (.bl G1)), none, none, none, none] = some (.bl G2) := by
    by_cases z : G1 = true
    · rw [fAnd_t (by show some (D.bl G1) = _; rw [z])]
      refine (all_len (n := 1) (ρ1 := [some (.val (.int c.starts.length))]) (w := c.starts.length) (ds := c.steps.map encL) (iLst_eq ((f2_eq rfl rfl).trans ix1)) (by rw [List.length_map]; exact b2) rfl (fun _ => rfl) (all_isL _)).trans ?_
      congr 2
      rw [Bool.eq_iff_iff, len_allI]
      simp only [G2, z, Bool.true_and, decide_eq_true_eq]
    · have z' : G1 = false := by simpa using z
      rw [fAnd_f (by show some (D.bl G1) = _; rw [z'])]
      simp only [G2, z', Bool.false_and]
  rw [gSeq_nx (ρ' := [none, some (.val (.int c.starts.length)), none, some L, none, none, none, some (.val (.bl G2)), none, none, none, none]) ((gSet_eq hG2).trans rfl)]
  have hG3 : fAnd (fVar 7) (fAnd (f3c gLe gLe (fC (.int 1)) (fA gLen (aCons (f2 gIx (f2 gIx (fVar 3) (fC (.int 2))) (fC (.int 0))) aNil)) (fC (.int 8))) (fA gAll (aCons (fComp 1 [(("_law_lists" : Str), 3)] (iLst (f2 gIx (fVar 3) (fC (.int 2)))) (tName 0) bTrue (f2 gEq (fA gLen (aCons (fVar 0) aNil)) (fA gLen (aCons (f2 gIx (f2 gIx (fVar 1) (fC (.int 2))) (fC (.int 0))) aNil)))) aNil))) [none, some (.val (.int c.starts.length)), none, some L, none, none, none, some (.val (.bl G2)), none, none, none, none] = some (.bl (wfB c)) := by
    by_cases z : G2 = true
    · rw [fAnd_t (by show some (D.bl G2) = _; rw [z])]
      have z2 : G1 = true ∧ (∀ r ∈ c.steps, r.length = c.starts.length) := by simpa [G2] using z
      have z1 : 1 ≤ c.starts.length ∧ c.starts.length ≤ 8 ∧ c.steps.length = c.starts.length ∧ c.signs.length = c.starts.length ∧ c.ends.length = c.starts.length := of_decide_eq_true z2.1
      obtain ⟨r0, rs, hsg⟩ : ∃ r rs, c.signs = r :: rs := by
        cases q : c.signs with
        | nil => have y := z1; rw [q] at y; simp at y; lia
        | cons r rs => exact ⟨r, rs, rfl⟩
      have el : ∀ (f : Fe) (ρ : Rho), f ρ = some (.lst (lst4 c)) → fA gLen (aCons (f2 gIx (f2 gIx f (fC (.int 2))) (fC (.int 0))) aNil) ρ = some (.int r0.length) := fun f ρ hf => by
        have e2 : f2 gIx f (fC (.int 2)) ρ = some (encLL c.signs) := (f2_eq hf rfl).trans ix2
        rw [hsg] at e2
        refine (fA_eq (aCons_eq ((f2_eq e2 rfl).trans ix0) rfl)).trans ?_
        show some (D.int ((r0.map encC).length : Int)) = _
        rw [List.length_map]
      have e3 := f3c_le (f := fC (.int 1)) (l := fC (.int 8)) (a := 1) (c := 8) (ρ := [none, some (.val (.int c.starts.length)), none, some L, none, none, none, some (.val (.bl G2)), none, none, none, none]) rfl (el (fVar 3) _ rfl) rfl
      have hr0 := b4 r0 (by rw [hsg]; exact List.mem_cons_self)
      by_cases y : (1 : Int) ≤ r0.length ∧ (r0.length : Int) ≤ 8
      · rw [fAnd_t (e3.trans (by rw [decide_eq_true y]))]
        refine (all_len (n := 1) (ρ1 := [some L]) (w := r0.length) (ds := c.signs.map encL) (iLst_eq ((f2_eq rfl rfl).trans ix2)) (by rw [List.length_map]; exact b3) rfl (fun d => el (fVar 1) _ rfl) (all_isL _)).trans ?_
        congr 2
        rw [Bool.eq_iff_iff, len_allI, wf_iff]
        constructor
        · intro q
          exact ⟨z1, z2.2, r0, rs, hsg, by lia, by lia, fun r hr => q r (by rw [hsg]; exact List.mem_cons_of_mem _ hr)⟩
        · rintro ⟨_, _, r1, rs1, e1, _, _, q⟩
          rw [hsg] at e1
          cases e1
          intro r hr
          rw [hsg] at hr
          rcases List.mem_cons.mp hr with q' | q'
          · rw [q']
          · exact q r q'
      · rw [fAnd_f (e3.trans (by rw [decide_eq_false y]))]
        congr 2
        symm
        rw [Bool.eq_false_iff]
        intro q
        obtain ⟨_, _, r1, rs1, e1, q1, q2, _⟩ := wf_iff.mp q
        rw [hsg] at e1
        cases e1
        exact y ⟨by lia, by lia⟩
    · have z' : G2 = false := by simpa using z
      rw [fAnd_f (by show some (D.bl G2) = _; rw [z'])]
      congr 2
      symm
      rw [Bool.eq_false_iff]
      intro q
      obtain ⟨q1, q2, _⟩ := wf_iff.mp q
      refine z ?_
      show (decide _ && decide _) = true
      rw [decide_eq_true q1, decide_eq_true q2]
      rfl
  rw [gSeq_nx (ρ' := [none, some (.val (.int c.starts.length)), none, some L, none, none, none, some (.val (.bl (wfB c))), none, none, none, none]) ((gSet_eq hG3).trans rfl)]
  rw [gSeq_nx (ρ' := [none, some (.val (.int c.starts.length)), none, some L, none, none, none, some (.val (.bl (wfB c))), some (.val .non), none, none, none]) rfl]
  rw [gSeq_nx (ρ' := [none, some (.val (.int c.starts.length)), none, some L, none, none, none, some (.val (.bl (wfB c))), some (.val .non), some (.val .non), none, none]) rfl]
  have eas : aCons (f2 gIx (fVar 3) (fC (.int 0))) (aCons (f2 gIx (fVar 3) (fC (.int 1))) (aCons (f2 gIx (fVar 3) (fC (.int 2))) (aCons (f2 gIx (fVar 3) (fC (.int 3))) aNil))) [none, some (.val (.int c.starts.length)), none, some L, none, none, none, some (.val (.bl (wfB c))), some (.val .non), some (.val .non), none, none] = some (lst4 c) :=
    aCons_eq ((f2_eq rfl rfl).trans ix0) (aCons_eq ((f2_eq rfl rfl).trans ix1) (aCons_eq ((f2_eq rfl rfl).trans ix2) (aCons_eq ((f2_eq rfl rfl).trans ix3) rfl)))
  have eFM : FM_Chain C CB (lst4 c) = if wfB c then some (.inl (lst4 c)) else some (.inr CB) := by
    show ((decL (encL c.starts)).bind fun a => (decLL (encLL c.steps)).bind fun b => (decLL (encLL c.signs)).bind fun c' => (decL (encL c.ends)).bind fun d => if smallB ⟨a, b, c', d⟩ then (if wfB ⟨a, b, c', d⟩ then some (Sum.inl [encL a, encLL b, encLL c', encL d]) else some (.inr CB)) else none) = _
    rw [dec_encL, dec_encLL, dec_encLL, dec_encL]
    show (if smallB c = true then _ else _) = _
    rw [if_pos hs]
  by_cases hw : wfB c = true
  · have et : gTry 9 8 10 C ns_Chain (FM_Chain C CB) (aCons (f2 gIx (fVar 3) (fC (.int 0))) (aCons (f2 gIx (fVar 3) (fC (.int 1))) (aCons (f2 gIx (fVar 3) (fC (.int 2))) (aCons (f2 gIx (fVar 3) (fC (.int 3))) aNil)))) [none, some (.val (.int c.starts.length)), none, some L, none, none, none, some (.val (.bl (wfB c))), some (.val .non), some (.val .non), none, none] =
        some (.nx [none, some (.val (.int c.starts.length)), none, some L, none, none, none, some (.val (.bl true)), some (.val .non), some (.val (encCh C c)), none, none]) := by
      unfold gTry
      rw [eas]
      show (FM_Chain C CB (lst4 c)).bind _ = _
      rw [eFM, if_pos hw, hw]
      rfl
    rw [gSeq_nx et]
    rw [gSeq_nx (ρ' := [none, some (.val (.int c.starts.length)), none, some L, none, none, none, some (.val (.bl true)), some (.val .non), some (.val (encCh C c)), none, none]) ((gIf_f rfl).trans rfl)]
    have es : f1 (gSelf C ("size" : Str) (F_size C)) (fVar 9) [none, some (.val (.int c.starts.length)), none, some L, none, none, none, some (.val (.bl true)), some (.val .non), some (.val (encCh C c)), none, none] = some (.int c.starts.length) := by
      refine (f1_eq (x := encCh C c) rfl).trans ?_
      show (if C = C ∧ ("size" : Str) ∉ chNs then F_size C [encCh C c] else none) = _
      rw [if_pos ⟨rfl, by decide +kernel⟩]
      show ((decCh C (encCh C c)).bind fun c => some (D.int c.starts.length)) = _
      rw [dec_encCh]
      rfl
    refine gRet_eq ?_
    rw [fAnd_t rfl, fAnd_t ((fA_eq (aCons_eq es rfl)).trans rfl)]
    refine (f2_eq es rfl).trans ?_
    show some (D.bl ((c.starts.length : Int) == c.starts.length)) = _
    simp
  · have hw' : wfB c = false := by simpa using hw
    have et : gTry 9 8 10 C ns_Chain (FM_Chain C CB) (aCons (f2 gIx (fVar 3) (fC (.int 0))) (aCons (f2 gIx (fVar 3) (fC (.int 1))) (aCons (f2 gIx (fVar 3) (fC (.int 2))) (aCons (f2 gIx (fVar 3) (fC (.int 3))) aNil)))) [none, some (.val (.int c.starts.length)), none, some L, none, none, none, some (.val (.bl (wfB c))), some (.val .non), some (.val .non), none, none] =
        some (.nx [none, some (.val (.int c.starts.length)), none, some L, none, none, none, some (.val (.bl false)), some (.val (.exc CB)), some (.val .non), none, none]) := by
      unfold gTry
      rw [eas]
      show (FM_Chain C CB (lst4 c)).bind _ = _
      rw [eFM, if_neg hw, hw']
      rfl
    have ea : ∀ b : Bool, f1 (gAns CB false b) (fVar 8) [none, some (.val (.int c.starts.length)), none, some L, none, none, none, some (.val (.bl false)), some (.val (.exc CB)), some (.val .non), none, none] = some (.bl b) := fun b => by
      show (if CB = CB then some (D.bl b) else none) = _
      rw [if_pos rfl]
    have ea2 : ∀ b : Bool, f1 (gAns CB false b) (fVar 8) [none, some (.val (.int c.starts.length)), none, some L, none, none, none, some (.val (.bl false)), some (.val (.exc CB)), some (.val .non), none, some (.val (.bl true))] = some (.bl b) := fun b => by
      show (if CB = CB then some (D.bl b) else none) = _
      rw [if_pos rfl]
    rw [gSeq_nx et]
    refine gSeq_rt ((gIf_t rfl).trans ?_)
    rw [gSeq_nx (ρ' := [none, some (.val (.int c.starts.length)), none, some L, none, none, none, some (.val (.bl false)), some (.val (.exc CB)), some (.val .non), none, some (.val (.bl true))]) ((gSet_eq (d := .bl true) ((fAnd_t (ea true)).trans (ea true))).trans rfl)]
    refine gRet_eq ((fAnd_t rfl).trans ?_)
    unfold fNot
    rw [ea2 false]
    rfl
end CR
namespace CR
open PySem L2 DL
theorem fld1 (C : Addr) (c : Ch) : gFld C ("starts" : Str) (encCh C c) = some (encL c.starts) := by
  show (if C = C then ((chNs.zip [encL c.starts, encLL c.steps, encLL c.signs, encL c.ends]).lookup ("starts" : Str)) else none) = _
  rw [if_pos rfl]; rfl
theorem decCh_enc {C : Addr} {d : D} {c : Ch} (h : decCh C d = some c) : d = encCh C c := by
  unfold decCh at h
  split at h
  · rename_i C' ns a b e f
    split at h
    · rename_i hc
      obtain ⟨rfl, rfl⟩ := hc
      obtain ⟨a', e1, h⟩ := bind1 h
      obtain ⟨b', e2, h⟩ := bind1 h
      obtain ⟨c', e3, h⟩ := bind1 h
      obtain ⟨d', e4, h⟩ := bind1 h
      cases h
      rw [decL_enc e1, decLL_enc e2, decLL_enc e3, decL_enc e4]
      rfl
    · cases h
  · cases h
theorem m_size {C : Addr} {ds : List D} {d : D} (h : F_size C ds = some d) : runD (g_size C) (startR N_size ds) = some d := by
  unfold F_size at h
  split at h
  · rename_i a
    obtain ⟨c, e1, e3⟩ := bind1 h
    cases e3
    rw [decCh_enc e1]
    refine run_rt (gRet_eq ((fA_eq (aCons_eq ((f1_eq rfl).trans (fld1 C c)) rfl)).trans ?_))
    show some (D.int ((c.starts.map encC).length : Nat)) = _
    rw [List.length_map]
  · cases h
end CR
namespace CR
open PySem L2 DL
theorem m_Lcell {ds : List D} {d : D} (h : F_Lcell ds = some d) : runD g_Lcell (startR N_Lcell ds) = some d := by
  unfold F_Lcell at h
  split at h
  · rename_i ns k
    cases h
    refine run_rt ?_
    unfold g_Lcell cellN
    cases ns with
    | nil => rfl
    | cons n ns =>
      have hl : (0 : Int) < (n :: ns).length := by simp only [List.length_cons]; lia
      rw [gSeq_rt (d := .int ((n :: ns).getD (k % (n :: ns).length).toNat 0)), if_neg (by simp)]
      refine (gIf_t (by rfl)).trans (gRet_eq ?_)
      have e1 : f2 gMod (fVar 1) (fA gLen (aCons (fVar 0) aNil)) (startR N_Lcell [.scr (n :: ns), .int k]) = some (.int (k % (n :: ns).length)) := by
        show (if (0 : Int) < ((n :: ns).length : Int) then some (D.int (k % ((n :: ns).length : Int))) else none) = _
        rw [if_pos hl]
      refine (f2_eq rfl e1).trans ?_
      have h0 := Int.emod_nonneg k (b := ((n :: ns).length : Int)) (by lia)
      have h1 := Int.emod_lt_of_pos k hl
      show (atI (n :: ns) (k % ((n :: ns).length : Int))).map D.int = _
      have e2 : (n :: ns)[(k % ((n :: ns).length : Int)).toNat]? = some ((n :: ns).getD (k % (n :: ns).length).toNat 0) := by
        rw [List.getD_eq_getElem?_getD]
        have hlt : (k % ((n :: ns).length : Int)).toNat < (n :: ns).length := by lia
        rw [List.getElem?_eq_getElem hlt]
        rfl
      have e3 : atI (n :: ns) (k % ((n :: ns).length : Int)) = some ((n :: ns).getD (k % (n :: ns).length).toNat 0) := by
        have := atI_nat e2
        rwa [Int.toNat_of_nonneg h0] at this
      rw [e3]
      rfl
  · cases h
theorem gMul_r {i j : Int} (h : -(2 ^ 64) < j ∧ j < 2 ^ 64) : gMul (.int i) (.int j) = some (.int (i * j)) := if_pos (.inr h)
theorem m_Lmix {ds : List D} {d : D} (h : F_Lmix ds = some d) : runD g_Lmix (startR N_Lmix ds) = some d := by
  unfold F_Lmix at h
  split at h
  · rename_i ns k
    cases h
    refine run_rt ?_
    unfold g_Lmix mixN
    generalize ha : (cellN ns k + 104729 * (k + 1)) % 4294967291 = a
    dsimp only
    generalize hb : a * 48271 % 4294967279 = b
    rw [gSeq_nx (ρ' := [some (.val (.scr ns)), some (.val (.int k)), some (.val (.int a))]) (by rw [← ha]; rfl)]
    rw [gSeq_nx (ρ' := [some (.val (.scr ns)), some (.val (.int k)), some (.val (.int b))]) ((gSet_eq (d := .int b) ((f2_eq (x := .int (a * 48271)) ((f2_eq rfl rfl).trans (gMul_r (by decide))) rfl).trans (by rw [← hb]; rfl))).trans rfl)]
    refine gRet_eq ((f2_eq (x := .int (b / 64 * 69621 + b)) ((f2_eq (x := .int (b / 64 * 69621)) ((f2_eq (x := .int (b / 64)) rfl rfl).trans (gMul_r (by decide))) rfl).trans rfl) rfl).trans rfl)
  · cases h
theorem m_Lwhole {ds : List D} {d : D} (h : F_Lwhole ds = some d) : runD g_Lwhole (startR N_Lwhole ds) = some d := by
  unfold F_Lwhole at h
  split at h
  · rename_i a
    obtain ⟨h1, rfl⟩ := ite_some h
    cases a <;> first | rfl | (cases h1; done)
  · cases h
end CR
namespace CR
open PySem L2 DL
theorem cut_from {α : Type} (enc : α → D) (xs : List α) (k : Nat) : cutD (xs.map enc) (some (k : Int)) none = (xs.drop k).map enc := by
  unfold cutD
  rw [HT.sIx_nat, HT.sIx_none, List.length_map, List.map_drop]
  by_cases h : k ≤ xs.length
  · rw [Nat.min_eq_left h, List.take_of_length_le (by simp)]
  · rw [Nat.min_eq_right (by lia), List.drop_of_length_le (by simp), List.drop_of_length_le (by simp; lia)]
    simp
theorem cut_to {α : Type} (enc : α → D) (xs : List α) (k : Nat) : cutD (xs.map enc) none (some (k : Int)) = (xs.take k).map enc := by
  unfold cutD
  rw [HT.sIx_nat, HT.sIx_none, List.length_map, List.drop_zero, List.map_take, Nat.sub_zero]
  by_cases h : k ≤ xs.length
  · rw [Nat.min_eq_left h]
  · rw [Nat.min_eq_right (by lia), List.take_of_length_le (by simp), List.take_of_length_le (by simp; lia)]
end CR
set_option maxHeartbeats 4000000
namespace CR
open PySem PySem.Spec L2 DL PyProof.Rows
noncomputable def gMulN : D → D → Option D
  | .lst xs, .int k => if (-(2 ^ 63) ≤ k ∧ k < 2 ^ 63 ∧ xs.length * k.toNat ≤ sizeLine) ∧ xs.all scalD = true then some (.lst (List.replicate k.toNat xs).flatten) else none
  | _, _ => none
theorem pfn_mul {X : Cx} {K : PySem.W.Frag} {a b : Expr} {f h : Fe} {pos : Pos} (ha : PF X K a f) (hb : PF X K b h) : PFN X K (.BinOp a .Mult b pos) (f2 gMulN f h) := fun hK => PE.imp (pe_op op_rep (ha hK) (hb hK)) fun σ H Q ⟨ρ, Hs, d, st, ef, k⟩ => by
  obtain ⟨x, y, e1, e2, e3⟩ := bind2 ef
  refine two_rd (fun u v H' => rRep u v H' Q) st e1 e2 fun u v H1 Hs1 g r1 r2 => ?_
  cases r1 with
  | @lst p vs ds h1 r1 =>
    cases r2 with
    | int i =>
      obtain ⟨⟨hc, hz⟩, rfl⟩ := ite_some (show (if (-(2 ^ 63) ≤ i ∧ i < 2 ^ 63 ∧ ds.length * i.toNat ≤ sizeLine) ∧ ds.all scalD = true then some (D.lst (List.replicate i.toNat ds).flatten) else none) = some d from e3)
      refine ⟨p, i, vs, rfl, rfl, g.sub _ _ h1, hc.1, hc.2.1, by rw [← r1.length]; exact hc.2.2, fun q hq => ?_⟩
      have ga := Grow.alloc (o := .lst (List.replicate i.toNat vs).flatten) g.sub hq
      have hHq : H q = none := g.h.free hq
      exact k _ _ _ (g.trans ga) (.lst (by rw [newOnly_at hHq]; exact upd_same) ((scals_rep r1 hz).rep _))
    | _ => cases e3
  | _ => cases e3
theorem flat_rep {α : Type} (x : α) : ∀ k : Nat, (List.replicate k [x]).flatten = List.replicate k x
  | 0 => rfl
  | k + 1 => by rw [List.replicate_succ, List.flatten_cons, flat_rep x k, List.replicate_succ]; rfl
theorem mulN_eq (x : D) (hx : scalD x = true) (n : Nat) (hn : n ≤ 1000) : gMulN (.lst [x]) (.int n) = some (.lst (List.replicate n x)) := by
  have sl' := sl
  unfold gMulN
  have hc : (-(2 ^ 63) ≤ (n : Int) ∧ (n : Int) < 2 ^ 63 ∧ [x].length * ((n : Int)).toNat ≤ sizeLine) ∧ [x].all scalD = true := ⟨⟨by lia, by lia, by simp; lia⟩, by rw [List.all_cons, hx]; rfl⟩
  simp only [Int.toNat_natCast] at hc ⊢
  rw [if_pos hc, flat_rep]
theorem mul_eq (x : D) (n : Nat) (hn : n ≤ 1000) : gMul (.lst [x]) (.int n) = some (.lst (List.replicate n x)) := by
  have sl' := sl
  unfold gMul
  have hc : -(2 ^ 63) ≤ (n : Int) ∧ (n : Int) < 2 ^ 63 ∧ [x].length * ((n : Int)).toNat ≤ sizeLine := ⟨by lia, by lia, by simp; lia⟩
  simp only [Int.toNat_natCast] at hc ⊢
  rw [if_pos hc, flat_rep]
theorem encL_rep (n : Nat) (x : Option Int) : encL (List.replicate n x) = .lst (List.replicate n (encC x)) := by
  unfold encL
  rw [List.map_replicate]
theorem encLL_rep (n : Nat) (r : List (Option Int)) : encLL (List.replicate n r) = .lst (List.replicate n (encL r)) := by
  unfold encLL
  rw [List.map_replicate]
theorem compRep {fr : List (Str × Nat)} {ρ : Rho} {x : Option Int} {fx : Fe} {n m : Nat} {ρ1 : List (Option Sl)} (hn : n ≤ 1000) (hm : m ≤ 1000) (h1 : ρ[1]? = some (some (.val (.int n)))) (hr : rhoIn 1 fr ρ = none :: ρ1) (hfx : ∀ d, fA gLst (aCons fx aNil) (some (.val d) :: ρ1) = some (.lst [encC x])) (hv : ∀ d, fVar 1 (some (.val d) :: ρ1) = some (.int m)) :
    fComp 1 fr (iRng (fVar 1)) (tName 0) bTrue (f2 gMulN (fA gLst (aCons fx aNil)) (fVar 1)) ρ = some (encLL (List.replicate n (List.replicate m x))) := by
  have sl' := sl
  have ei : iRng (fVar 1) ρ = some ((List.range n).map fun (k : Nat) => D.int (k : Int)) := by
    have e := iRng_eq (f := fVar 1) (ρ := ρ) (j := (n : Int)) (by unfold fVar; rw [h1]) (by lia) (by lia)
    rw [Int.toNat_natCast] at e
    exact e
  have ec : compD 1 (tName 0) bTrue (f2 gMulN (fA gLst (aCons fx aNil)) (fVar 1)) ((List.range n).map fun (k : Nat) => D.int (k : Int)) (none :: ρ1) = some (((List.range n).map fun _ => List.replicate m x).map encL) := by
    refine compD_typed (fun (k : Nat) => D.int (k : Int)) encL (fun _ => List.replicate m x) (fun k => some (.val (.int k)) :: ρ1) (List.range n) fun k _ => ⟨rfl, ?_, rfl⟩
    refine (f2_eq (hfx _) (hv _)).trans ?_
    rw [mulN_eq (encC x) (by cases x <;> rfl) m hm, encL_rep]
  refine (fComp_eq ei (by simp; lia) (by rw [hr]; exact ec)).trans ?_
  unfold encLL
  congr 3
  rw [List.map_const', List.length_range]
section
variable {K : PySem.W.Frag} {Hs : Hp} {p z : Addr} {zs : List V} {o : HO}
theorem Rep.encL_upd {r : List (Option Int)} {v : V} (h : Hs p = some (.lst (.ref z :: zs))) (q : Rep K Hs (encL r) v) : Rep K (upd Hs p o) (encL r) v := by
  cases q with
  | @lst a us _ h1 r1 =>
    have ne : a ≠ p := fun e => by
      subst e
      rw [h] at h1
      cases h1
      cases r with
      | nil => cases r1
      | cons c cs =>
        cases r1 with
        | cons q qs => cases c <;> cases q
    exact .lst (by rw [upd_ne ne]; exact h1) (scals_rep r1 (all_scal r))
theorem Reps.encL_upd : ∀ {rs : List (List (Option Int))} {vs : List V}, Hs p = some (.lst (.ref z :: zs)) → Reps K Hs (rs.map encL) vs → Reps K (upd Hs p o) (rs.map encL) vs
  | [], _, _, .nil => .nil
  | r :: rs, _, h, .cons q qs => .cons (Rep.encL_upd h q) (Reps.encL_upd h qs)
theorem Rep.encLL_upd {rs : List (List (Option Int))} {a : Addr} (h : Hs p = some (.lst (.ref z :: zs))) (ne : a ≠ p) (q : Rep K Hs (encLL rs) (.ref a)) : Rep K (upd Hs p o) (encLL rs) (.ref a) := by
  cases q with
  | lst h1 r1 => exact .lst (by rw [upd_ne ne]; exact h1) (Reps.encL_upd h r1)
theorem Reps.setL {rs : List (List (Option Int))} {vs : List V} {r : List (Option Int)} {v : V} {j : Nat} (q : Reps K Hs (rs.map encL) vs) (qr : Rep K Hs (encL r) v) : Reps K Hs ((rs.set j r).map encL) (vs.set j v) := by
  rw [List.map_set]
  exact Reps.set qr j q
theorem rows_ref {rs : List (List (Option Int))} {vs : List V} (hn : rs ≠ []) (q : Reps K Hs (rs.map encL) vs) : ∃ z zs, vs = .ref z :: zs := by
  cases rs with
  | nil => exact absurd rfl hn
  | cons r rs =>
    cases q with
    | cons q qs =>
      cases q with
      | @lst a us _ h1 r1 => exact ⟨a, _, rfl⟩
end
end CR
set_option maxHeartbeats 4000000
namespace CR
open PySem PySem.Spec L2 DL PyProof.Rows
theorem ixMod (l : List Int) (m : Int) (k : Nat) (hk : l.length = k) (h0 : 0 < k) : ∃ x ∈ l, gIx (.lst (l.map D.int)) (.int (m % (k : Int))) = some (.int x) := by
  have h1 : 0 ≤ m % (k : Int) := Int.emod_nonneg _ (by lia)
  have h2 : m % (k : Int) < k := Int.emod_lt_of_pos _ (by lia)
  obtain ⟨j, hj⟩ : ∃ j : Nat, m % (k : Int) = j := ⟨(m % (k : Int)).toNat, by lia⟩
  rw [hj]
  have hjl : j < l.length := by lia
  refine ⟨l[j], List.getElem_mem hjl, ?_⟩
  show atI (l.map D.int) ((j : Nat) : Int) = _
  refine atI_nat ?_
  rw [List.getElem?_map, List.getElem?_eq_getElem hjl]
  rfl
theorem mixMod {ns : List Int} {ρ : Rho} {j k : Int} (h : ρ[0]? = some (some (.val (.scr ns)))) (hk : 0 < k) : f2 gMod (fA F_Lmix (aCons (fVar 0) (aCons (fC (.int j)) aNil))) (fC (.int k)) ρ = some (.int (mixN ns j % k)) := by
  have e0 : fVar 0 ρ = some (.scr ns) := by unfold fVar; rw [h]
  refine (f2_eq ((fA_eq (aCons_eq e0 rfl)).trans rfl) rfl).trans ?_
  show (if 0 < k then some (D.int (mixN ns j % k)) else none) = _
  rw [if_pos hk]
section
variable {K : PySem.W.Frag} {Hs H Hs' H' : Hp} {l p : Addr} {xs : List V} {σ : L2.St}
theorem Grow.put (g : Grow Hs H Hs' H') (hl : H l = none) (hsl : Hs' l = none) (o : HO) : Grow Hs H Hs' (upd H' l o) := ⟨g.hs, sm_updR g.h hl, sm_updR g.sub hsl, g.new⟩
theorem Grow.put2 (g : Grow Hs H Hs' H') (hp : H p = none) (s0 : Same Hs H) (o : HO) : Grow Hs H (upd Hs' p o) (upd H' p o) := by
  have hsp : Hs p = none := s0.free hp
  refine ⟨sm_updR g.hs hsp, sm_updR g.h hp, sm_upd2 g.sub, fun b hb e => ?_⟩
  by_cases q : b = p
  · rw [q]; exact hp
  · rw [upd_ne q] at hb; exact g.new b hb e
theorem Grow.apart (g : Grow Hs H Hs' H') (hs : Hs l = none) (hl : H l ≠ none) : Hs' l = none := by
  cases q : Hs' l with
  | none => rfl
  | some o => exact absurd (g.new l (by rw [q]; simp) hs) hl
theorem rest_rd {C CB : Addr} {Dn : Ends} {c : Ch} (hc : smallB c = true) (s0 : Same Hs H) (g : Grow Hs H Hs' H') (hl : H l = none) (hsl : Hs' l = none) (hx : H' l = some (.lst xs)) (r : Reps K Hs' (lst4 c) xs) (h3 : σ[3]? = some (some (.ref l))) (hlen : σ.length = 12)
    (q : ∀ v H2 Hs2, Grow Hs H Hs2 H2 → Rep K Hs2 (.bl true) v → Dn.rt v H2) : tFS K (g_law C CB) Dn σ H' := by
  have hs' : Same Hs' (upd Hs' l (.lst xs)) := sm_upd hsl
  have sub : Same (upd Hs' l (.lst xs)) H' := fun b o e => by
    by_cases z : b = l
    · subst z; rw [upd_same] at e; cases e; exact hx
    · rw [upd_ne z] at e; exact g.sub b o e
  have only : ∀ (i : Nat) (s : Sl), ([none, none, none, some (.val (.lst (lst4 c))), none, none, none, none, none, none, none, none] : Rho)[i]? = some (some s) → i = 3 ∧ s = .val (.lst (lst4 c)) := fun i s e => by
    match i, e with
    | 0, e => cases e
    | 1, e => cases e
    | 2, e => cases e
    | 3, e => cases e; exact ⟨rfl, rfl⟩
    | 4, e => cases e
    | 5, e => cases e
    | 6, e => cases e
    | 7, e => cases e
    | 8, e => cases e
    | 9, e => cases e
    | 10, e => cases e
    | 11, e => cases e
  refine ⟨Hs, H, [none, none, none, some (.val (.lst (lst4 c))), none, none, none, none, none, none, none, none], upd Hs' l (.lst xs), .rt (.bl true), ⟨⟨sub, hlen.symm, fun i s e => ?_⟩, ⟨g.hs.trans hs', g.h, sub, fun b hb e => ?_⟩, fun i ds a e => ?_, fun i j ds es a e => ?_⟩, rest_true c hc C CB, q⟩
  · obtain ⟨rfl, rfl⟩ := only i s e
    exact ⟨_, h3, .lst upd_same (r.mono hs')⟩
  · by_cases z : b = l
    · rw [z]; exact hl
    · rw [upd_ne z] at hb; exact g.new b hb e
  · obtain ⟨_, z⟩ := only i _ e; cases z
  · obtain ⟨_, z⟩ := only i _ e; cases z
end
noncomputable def F_law : List D → Option D
  | [.scr _] => some (.bl true)
  | _ => none
noncomputable abbrev spLaw (K : PySem.W.Frag) : Sp := spF K F_law
noncomputable abbrev c0 (n w : Nat) : Ch := ⟨List.replicate n (some 0), List.replicate n (List.replicate n (some 0)), List.replicate n (List.replicate w none), List.replicate n (some 1)⟩
theorem small_mk {c : Ch} (h1 : c.starts.length ≤ 1000) (h2 : c.steps.length ≤ 1000) (h3 : c.signs.length ≤ 1000) (h4 : ∀ r ∈ c.signs, r.length ≤ 1000) : smallB c = true := by
  unfold smallB
  simp only [Bool.and_eq_true, decide_eq_true_eq, List.all_eq_true]
  exact ⟨⟨⟨h1, h2⟩, h3⟩, h4⟩
noncomputable def cutA {α : Type} (t : Int) (xs : List α) : List α := if t = 0 then xs.drop 1 else xs ++ xs.take 1
theorem cutA_len {α : Type} (t : Int) (xs : List α) : (cutA t xs).length ≤ xs.length + 1 := by
  unfold cutA
  split
  · rw [List.length_drop]; lia
  · rw [List.length_append, List.length_take]; lia
theorem cutA_mem {α : Type} {t : Int} {xs : List α} {x : α} (h : x ∈ cutA t xs) : x ∈ xs := by
  unfold cutA at h
  split at h
  · exact List.mem_of_mem_drop h
  · rcases List.mem_append.mp h with z | z
    · exact z
    · exact List.mem_of_mem_take z
theorem valA_eq {α : Type} (enc : α → D) (ys : List α) (hz : ys.length ≤ 900) {f g : Fe} {ρ : Rho} {t : Int} (hf : f ρ = some (.int t)) (hg : g ρ = some (.lst (ys.map enc))) :
    fIf (bTest (f2 gEq f (fC (.int 0)))) (fSl g (oSome (fC (.int 1))) oNone) (f2 gAdd g (fSl g oNone (oSome (fC (.int 1))))) ρ = some (.lst ((cutA t ys).map enc)) := by
  have sl' := sl
  have et : bTest (f2 gEq f (fC (.int 0))) ρ = some (t == 0) := bTest_eq ((f2_eq hf rfl).trans rfl)
  have e2 : fSl g oNone (oSome (fC (.int 1))) ρ = some (.lst ((ys.take 1).map enc)) := by
    unfold fSl
    rw [hg]
    show some (D.lst (cutD (ys.map enc) none (some ((1 : Nat) : Int)))) = _
    rw [cut_to]
  by_cases h : t = 0
  · rw [fIf_t (et.trans (by rw [h]; rfl))]
    unfold fSl
    rw [hg]
    show some (D.lst (cutD (ys.map enc) (some ((1 : Nat) : Int)) none)) = _
    rw [cut_from]
    unfold cutA
    rw [if_pos h]
  · rw [fIf_f (et.trans (by rw [beq_eq_false_iff_ne.mpr h]))]
    refine (f2_eq hg e2).trans ?_
    show (if (ys.map enc).length + ((ys.take 1).map enc).length ≤ sizeLine then some (D.lst (ys.map enc ++ (ys.take 1).map enc)) else none) = _
    rw [if_pos (by simp only [List.length_map, List.length_take]; lia), ← List.map_append]
    unfold cutA
    rw [if_neg h]
noncomputable def cutB (t : Int) (xs : List (Option Int)) : List (Option Int) := if t = 0 then xs.drop 1 else xs ++ [some 0]
theorem cutB_len (t : Int) (xs : List (Option Int)) : (cutB t xs).length ≤ xs.length + 1 := by
  unfold cutB
  split
  · rw [List.length_drop]; lia
  · rw [List.length_append]; exact Nat.le_refl _
theorem valB_eq (ys : List (Option Int)) (hz : ys.length ≤ 900) {f g : Fe} {ρ : Rho} {t : Int} (hf : f ρ = some (.int t)) (hg : g ρ = some (encL ys)) :
    fIf (bTest (f2 gEq f (fC (.int 0)))) (fSl g (oSome (fC (.int 1))) oNone) (f2 gAdd g (fA gLst (aCons (fC (.int 0)) aNil))) ρ = some (encL (cutB t ys)) := by
  have sl' := sl
  have et : bTest (f2 gEq f (fC (.int 0))) ρ = some (t == 0) := bTest_eq ((f2_eq hf rfl).trans rfl)
  have hg' : g ρ = some (.lst (ys.map encC)) := hg
  by_cases h : t = 0
  · rw [fIf_t (et.trans (by rw [h]; rfl))]
    unfold fSl
    rw [hg']
    show some (D.lst (cutD (ys.map encC) (some ((1 : Nat) : Int)) none)) = _
    rw [cut_from]
    unfold cutB encL
    rw [if_pos h]
  · rw [fIf_f (et.trans (by rw [beq_eq_false_iff_ne.mpr h]))]
    refine (f2_eq hg' (y := .lst [.int 0]) rfl).trans ?_
    show (if (ys.map encC).length + 1 ≤ sizeLine then some (D.lst (ys.map encC ++ [D.int 0])) else none) = _
    rw [if_pos (by simp only [List.length_map]; lia)]
    unfold cutB encL
    rw [if_neg h, List.map_append]
    rfl
end CR
set_option maxHeartbeats 4000000
namespace CR
open PySem PySem.Spec L2 DL PyProof.Rows
section
variable {P : Program} {w : World} {K : PySem.W.Frag} {mg : Str → Option Value} {base : Heap} {C CB CR C1 C2 : Addr}
noncomputable abbrev fMany : Fe := f2 gIx (fA gLst (aCons (fC (.int 0)) (aCons (fC (.int 1)) (aCons (fC (.int 2)) (aCons (fC (.int 3)) (aCons (fC (.int 7)) (aCons (fC (.int 8)) (aCons (fC (.int 9)) aNil)))))))) (f2 gMod (fA F_Lmix (aCons (fVar 0) (aCons (fC (.int 0)) aNil))) (fC (.int 7)))
noncomputable abbrev fWide : Fe := f2 gIx (fA gLst (aCons (fC (.int 0)) (aCons (fC (.int 1)) (aCons (fC (.int 2)) (aCons (fC (.int 7)) (aCons (fC (.int 8)) (aCons (fC (.int 9)) aNil))))))) (f2 gMod (fA F_Lmix (aCons (fVar 0) (aCons (fC (.int 1)) aNil))) (fC (.int 6)))
theorem many_eq {ns : List Int} {ρ : Rho} (h : ρ[0]? = some (some (.val (.scr ns)))) : ∃ n : Nat, n ≤ 9 ∧ fMany ρ = some (.int n) := by
  obtain ⟨x, hx, e⟩ := ixMod [0, 1, 2, 3, 7, 8, 9] (mixN ns 0) 7 rfl (by decide)
  have hr : 0 ≤ x ∧ x ≤ 9 := by
    simp only [List.mem_cons, List.not_mem_nil, or_false] at hx
    lia
  refine ⟨x.toNat, by lia, ?_⟩
  rw [show ((x.toNat : Nat) : Int) = x by lia]
  exact (f2_eq (x := .lst ([0, 1, 2, 3, 7, 8, 9].map D.int)) rfl (mixMod h (by decide))).trans e
theorem wide_eq {ns : List Int} {ρ : Rho} (h : ρ[0]? = some (some (.val (.scr ns)))) : ∃ n : Nat, n ≤ 9 ∧ fWide ρ = some (.int n) := by
  obtain ⟨x, hx, e⟩ := ixMod [0, 1, 2, 7, 8, 9] (mixN ns 1) 6 rfl (by decide)
  have hr : 0 ≤ x ∧ x ≤ 9 := by
    simp only [List.mem_cons, List.not_mem_nil, or_false] at hx
    lia
  refine ⟨x.toNat, by lia, ?_⟩
  rw [show ((x.toNat : Nat) : Int) = x by lia]
  exact (f2_eq (x := .lst ([0, 1, 2, 7, 8, 9].map D.int)) rfl (mixMod h (by decide))).trans e
theorem ok_law {f : Addr} {fd : FuncData} (U : Fun K "law" "law" s_law f fd) (T : Txt K mg C) (V : Exn K mg base CB CR C1 C2) (d_Chain : Dk P w K mg base 3 "Chain" C ps_Chain ns_Chain (FM_Chain C CB)) (d__law_whole : Df P w K mg base 1 "_law_whole" ["_law_found"] F_Lwhole)
    (d__law_mix : Df P w K mg base 2 "_law_mix" ["_law_script", "_law_k"] F_Lmix) (d_size : Dm P w K mg base 1 C "size" ["self"] (F_size C)) :
    FnOk P w K mg base CX0 5 f fd ["_law_script"] (spLaw K) := by
  refine U.ok fs_law (fun vs H Q E ⟨Hs, ds, d, s, r, e, q⟩ => by
    rw [← r.length]
    unfold F_law at e
    split at e
    · rfl
    · cases e) fun cdv A outer s H vs Q E hr ⟨Hs, ds, d, sm, r, e, q⟩ => ?_
  unfold F_law at e
  split at e
  case h_2 => cases e
  rename_i ns
  cases e
  refine ⟨_, pss_cons (ps_set (i := 1) fs_law.nd rfl (Or.inr rfl) (PF.pe (K := K) (pf_ix (pf_lst (pfa_cons pf_int (pfa_cons pf_int (pfa_cons pf_int (pfa_cons pf_int (pfa_cons pf_int (pfa_cons pf_int (pfa_cons pf_int pfa_nil)))))))) (pf_op op_mod a_mod (pf_call (d__law_mix.mono (by decide)) hr rfl (pfa_cons (pf_var 0) (pfa_cons pf_int pfa_nil))) pf_int)) rfl))
    (pss_cons (ps_set (i := 2) fs_law.nd rfl (Or.inr rfl) (PF.pe (K := K) (pf_ix (pf_lst (pfa_cons pf_int (pfa_cons pf_int (pfa_cons pf_int (pfa_cons pf_int (pfa_cons pf_int (pfa_cons pf_int pfa_nil))))))) (pf_op op_mod a_mod (pf_call (d__law_mix.mono (by decide)) hr rfl (pfa_cons (pf_var 0) (pfa_cons pf_int pfa_nil))) pf_int)) rfl))
    (pss_cons (ps_set (i := 3) fs_law.nd rfl (Or.inr rfl) (pe_lst (pa_cons (PF.pe (K := K) (pf_op o_mul a_mul (pf_lst (pfa_cons pf_int pfa_nil)) (pf_var 1)) rfl)
      (pa_cons (PFN.pe (K := K) (pfn_comp rfl (S_lawA_0.at rfl rfl) (pi_rangeF rfl T.b_range (pf_var 1)) (fun s H pins fp => (pg_nameF 0 S_lawA_0.nd)) (fun s H pins fp => if_nil) (fun s H pins fp => pfn_mul (pf_lst (pfa_cons pf_int pfa_nil)) (pf_var 1))) rfl)
      (pa_cons (PFN.pe (K := K) (pfn_comp rfl (S_lawA_1.at rfl rfl) (pi_rangeF rfl T.b_range (pf_var 1)) (fun s H pins fp => (pg_nameF 0 S_lawA_1.nd)) (fun s H pins fp => if_nil) (fun s H pins fp => pfn_mul (pf_lst (pfa_cons pf_non pfa_nil)) (pf_var 1))) rfl)
      (pa_cons (PF.pe (K := K) (pf_op o_mul a_mul (pf_lst (pfa_cons pf_int pfa_nil)) (pf_var 1)) rfl) pa_nil))))))
    (pss_cons (ps_set (i := 4) fs_law.nd rfl (Or.inl rfl) (PF.pe (K := K) (pf_op op_mod a_mod (pf_call (d__law_mix.mono (by decide)) hr rfl (pfa_cons (pf_var 0) (pfa_cons pf_int pfa_nil))) pf_int) rfl))
    (pss_cons (ps_if (PFT.pe (K := K) (pt_cmpF op_lt a_lt (pf_var 4) pf_int) rfl)
        (pss_cons (ps_set (i := 5) fs_law.nd rfl (Or.inl rfl) (PF.pe (K := K) (pf_op op_mod a_mod (pf_call (d__law_mix.mono (by decide)) hr rfl (pfa_cons (pf_var 0) (pfa_cons pf_int pfa_nil))) pf_int) rfl))
          (pss_one (ps_asg (PF.pe (K := K) (pf_if (pt_cmpF (o_eq hr.units) a_eq (pf_var 5) pf_int) (pf_slice (pf_ixOwn 3 (pf_var 4)) (pfo_some pf_int) pfo_none) (pf_op o_add a_add (pf_ixOwn 3 (pf_var 4)) (pf_slice (pf_ixOwn 3 (pf_var 4)) pfo_none (pfo_some pf_int)))) rfl) (pg_sub (pv 3) (PF.pe (K := K) (pf_var 4) rfl) set_list))))
        (pss_one (ps_if (PFT.pe (K := K) (PFW.pt (pw_andF (pt_cmpF op_lt a_lt (pf_var 4) pf_int) (pw_and1F (pt_cmpF op_gt a_gt (pf_var 1) pf_int)))) rfl)
          (pss_cons (ps_set (i := 6) fs_law.nd rfl (Or.inl rfl) (PF.pe (K := K) (pf_op op_mod a_mod (pf_call (d__law_mix.mono (by decide)) hr rfl (pfa_cons (pf_var 0) (pfa_cons pf_int pfa_nil))) (pf_var 1)) rfl))
            (pss_one (ps_asg (PF.pe (K := K) (pf_if (pt_cmpF (o_eq hr.units) a_eq (pf_op op_mod a_mod (pf_call (d__law_mix.mono (by decide)) hr rfl (pfa_cons (pf_var 0) (pfa_cons pf_int pfa_nil))) pf_int) pf_int) (pf_slice (pf_ix (pf_ixOwn 3 (pf_op op_sub a_sub (pf_var 4) pf_int)) (pf_var 6)) (pfo_some pf_int) pfo_none) (pf_op o_add a_add (pf_ix (pf_ixOwn 3 (pf_op op_sub a_sub (pf_var 4) pf_int)) (pf_var 6)) (pf_lst (pfa_cons pf_int pfa_nil)))) rfl)
              (pg_sub (pe_ix ix_list (pv 3) (PF.pe (K := K) (pf_op op_sub a_sub (pf_var 4) pf_int) rfl) (by intro _ _; rfl)) (PF.pe (K := K) (pf_var 6) rfl) set_list)))) pss_nil)))
    (PFSs.pe (K := K) (t_law T V d_Chain d__law_whole d_size cdv A outer s H E hr) rfl))))), ?_⟩
  cases r with
  | @cons _ v0 _ _ r0 rs =>
  cases rs
  have st0 : StE K Hs H [some (.val (.scr ns)), none, none, none, none, none, none, none, none, none, none, none] [some v0, none, none, none, none, none, none, none, none, none, none, none] := (start_st (N := N_law) sm (.cons r0 .nil) (by show 1 ≤ 12; decide)).st
  have fin : ∀ v H2 Hs2, Grow Hs H Hs2 H2 → Rep K Hs2 (.bl true) v → Q v H2 := q
  clear q
  show tSeq _ _ _ [some v0, none, none, none, none, none, none, none, none, none, none, none] H
  obtain ⟨n, hn, en⟩ := many_eq (ns := ns) (ρ := [some (.val (.scr ns)), none, none, none, none, none, none, none, none, none, none, none]) rfl
  refine ⟨_, _, .int n, st0, en, fun v1 H1 Hs1 g1 r1 => ?_⟩
  cases r1
  have st1 := (st0.grow g1).set (i := 1) (s := .val (.int n)) (v := .int n) (.int _)
  obtain ⟨m, hm, em⟩ := wide_eq (ns := ns) (ρ := [some (.val (.scr ns)), some (.val (.int n)), none, none, none, none, none, none, none, none, none, none]) rfl
  refine ⟨_, _, .int m, st1, em, fun v2 H2 Hs2 g2 r2 => ?_⟩
  cases r2
  have st2 := (st1.grow g2).set (i := 2) (s := .val (.int m)) (v := .int m) (.int _)
  have gA := g1.trans g2
  clear st0 st1 en em g1 g2
  refine ⟨_, Hs2, encL (List.replicate n (some 0)), st2, ?_, fun x0 H3 Hs3 g3 q0 => ?_⟩
  · refine (f2_eq (x := .lst [.int 0]) rfl rfl).trans ((mul_eq (.int 0) n (by lia)).trans ?_)
    rw [encL_rep]; rfl
  refine ⟨_, Hs3, encLL (List.replicate n (List.replicate n (some 0))), st2.grow g3, compRep (x := some 0) (n := n) (m := n) (ρ1 := [some (.val (.int n))]) (by lia) (by lia) rfl rfl (fun _ => rfl) (fun _ => rfl), fun x1 H4 Hs4 g4 q1 => ?_⟩
  refine ⟨_, Hs4, encLL (List.replicate n (List.replicate m none)), (st2.grow g3).grow g4, compRep (x := none) (n := n) (m := m) (ρ1 := [some (.val (.int m))]) (by lia) (by lia) rfl rfl (fun _ => rfl) (fun _ => rfl), fun x2 H5 Hs5 g5 q2 => ?_⟩
  refine ⟨_, Hs5, encL (List.replicate n (some 1)), ((st2.grow g3).grow g4).grow g5, ?_, fun x3 H6 Hs6 g6 q3 => ⟨by show 4 ≤ sizeLine; decide, fun l hl => ?_⟩⟩
  · refine (f2_eq (x := .lst [.int 1]) rfl rfl).trans ((mul_eq (.int 1) n (by lia)).trans ?_)
    rw [encL_rep]; rfl
  obtain ⟨p1, rfl, hp1, hp1'⟩ : ∃ p1, x1 = .ref p1 ∧ H3 p1 = none ∧ Hs4 p1 ≠ none := by
    cases q1 with
    | @lst a us _ h1 _ =>
      unfold newOnly at h1
      split at h1
      · rename_i z
        exact ⟨a, rfl, z, by rw [h1]; simp⟩
      · cases h1
  obtain ⟨p2, rfl, hp2⟩ : ∃ p2, x2 = .ref p2 ∧ H4 p2 = none := by
    cases q2 with
    | @lst a us _ h1 _ =>
      unfold newOnly at h1
      split at h1
      · rename_i z
        exact ⟨a, rfl, z⟩
      · cases h1
  have ne12 : p1 ≠ p2 := fun z => by
    subst z
    have : H4 p1 ≠ none := fun z => by
      cases y : Hs4 p1 with
      | none => exact hp1' y
      | some o => rw [g4.sub _ _ y] at z; cases z
    exact this hp2
  have g06 : Grow Hs H Hs6 H6 := (((gA.trans g3).trans g4).trans g5).trans g6
  have hHl : H l = none := g06.h.free hl
  have hHp1 : H p1 = none := (gA.trans g3).h.free hp1
  have hHp2 : H p2 = none := ((gA.trans g3).trans g4).h.free hp2
  have hsl : Hs6 l = none := g06.sub.free hl
  have rL : Reps K Hs6 (lst4 (c0 n m)) [x0, .ref p1, .ref p2, x3] :=
    .cons (((q0.mono g4.hs).mono g5.hs).mono g6.hs) (.cons (((q1.mono (newOnly_sub _ _)).mono g5.hs).mono g6.hs) (.cons ((q2.mono (newOnly_sub _ _)).mono g6.hs) (.cons q3 .nil)))
  have g7 : Grow Hs6 H6 Hs6 (upd H6 l (.lst [x0, .ref p1, .ref p2, x3])) := ⟨Same.refl _, sm_upd hl, sm_updR g06.sub hsl, fun b hb e => absurd e hb⟩
  have st3 := ((((st2.grow g3).grow g4).grow g5).grow g6 |>.grow g7).set (i := 3) (s := .own (lst4 (c0 n m))) (v := .ref l) ⟨l, _, rfl, hsl, upd_same, rL⟩
  have g07 := g06.trans g7
  clear g3 g4 g5 g6 g7 gA q0 q1 q2 q3 st2 g06 hl hp1 hp1' hp2
  generalize hH7 : upd H6 l (.lst [x0, .ref p1, .ref p2, x3]) = H7 at st3 g07 ⊢
  have hl7 : H7 l = some (.lst [x0, .ref p1, .ref p2, x3]) := by rw [← hH7]; exact upd_same
  clear hH7
  have hmod : ∀ j k : Int, 0 < k → 0 ≤ mixN ns j % k ∧ mixN ns j % k < k := fun j k hk => ⟨Int.emod_nonneg _ (by lia), Int.emod_lt_of_pos _ hk⟩
  obtain ⟨way, hway⟩ : ∃ y : Int, y = mixN ns 2 % 7 := ⟨_, rfl⟩
  have hw7 := hmod 2 7 (by decide)
  rw [← hway] at hw7
  refine ⟨_, _, .int way, st3, by rw [hway]; exact mixMod rfl (by decide), fun v4 H8 Hs8 g8 r8 => ?_⟩
  cases r8
  have st4 := (st3.grow g8).set (i := 4) (s := .val (.int way)) (v := .int way) (.int _)
  have rL8 := rL.mono g8.hs
  have hl8 := g8.h _ _ hl7
  have hs8 := Grow.apart g8 hsl (by rw [hl7]; simp)
  have g08 := g07.trans g8
  clear st3 rL hl7 hsl g07 g8
  refine ⟨_, _, decide (way < 4), st4, bTest_eq rfl, fun H9 Hs9 g9 => ?_⟩
  have st5 := st4.grow g9
  have rL9 := rL8.mono g9.hs
  have hl9 := g9.h _ _ hl8
  have hs9 := Grow.apart g9 hs8 (by rw [hl8]; simp)
  have g09 := g08.trans g9
  clear st4 rL8 hl8 hs8 g08 g9
  have small0 : ∀ r ∈ (c0 n m).signs, r.length ≤ 900 := fun r hr => by
    have := List.eq_of_mem_replicate hr
    rw [this, List.length_replicate]; lia
  dsimp only
  by_cases hA : way < 4
  · rw [if_pos (decide_eq_true hA)]
    obtain ⟨tn, htn⟩ : ∃ y : Int, y = mixN ns 3 % 2 := ⟨_, rfl⟩
    refine ⟨_, _, .int tn, st5, by rw [htn]; exact mixMod rfl (by decide), fun v5 H10 Hs10 g10 r10 => ?_⟩
    cases r10
    have st6 := (st5.grow g10).set (i := 5) (s := .val (.int tn)) (v := .int tn) (.int _)
    have rL10 := rL9.mono g10.hs
    have hl10 := g10.h _ _ hl9
    have hs10 := Grow.apart g10 hs9 (by rw [hl9]; simp)
    have g010 := g09.trans g10
    clear st5 rL9 hl9 hs9 g09 g10
    have step : ∀ (k : Nat) (c : Ch) (d d' : D), way = k → (lst4 (c0 n m))[k]? = some d → smallB c = true → lst4 c = (lst4 (c0 n m)).set k d' →
        fIf (bTest (f2 gEq (fVar 5) (fC (.int 0)))) (fSl (fIxOwn 3 (fVar 4)) (oSome (fC (.int 1))) oNone) (f2 gAdd (fIxOwn 3 (fVar 4)) (fSl (fIxOwn 3 (fVar 4)) oNone (oSome (fC (.int 1))))) [some (.val (.scr ns)), some (.val (.int n)), some (.val (.int m)), some (.own (lst4 (c0 n m))), some (.val (.int way)), some (.val (.int tn)), none, none, none, none, none, none] = some d' → k < 4 →
        tAsg (tF K (fIf (bTest (f2 gEq (fVar 5) (fC (.int 0)))) (fSl (fIxOwn 3 (fVar 4)) (oSome (fC (.int 1))) oNone) (f2 gAdd (fIxOwn 3 (fVar 4)) (fSl (fIxOwn 3 (fVar 4)) oNone (oSome (fC (.int 1))))))) (L2.gSub (tVar 3) (tF K (fVar 4)) rSetL) { nx := tFS K (g_law C CB) { nx := fun _ H' => Q .non H', rt := Q }, rt := Q } [some v0, some (.int n), some (.int m), some (.ref l), some (.int way), some (.int tn), none, none, none, none, none, none] H10 := fun k c d d' hk hd hc hset ev hk4 => by
      refine ⟨_, _, d', st6, ev, fun x H11 Hs11 g11 rx => ⟨.ref l, rfl, _, _, .int way, st6.grow g11, rfl, fun iv H12 Hs12 g12 ri => ?_⟩⟩
      cases ri
      have hl12 := g12.h _ _ (g11.h _ _ hl10)
      have gg := g11.trans g12
      have hs12 := Grow.apart gg hs10 (by rw [hl10]; simp)
      refine ⟨l, _, way, k, rfl, rfl, hl12, ?_, ?_⟩
      · rw [hk]
        unfold ixN
        rw [if_pos (by lia), if_pos (by show (k : Int) < 4; lia), Int.toNat_natCast]
      · refine rest_rd (c := c) (l := l) hc sm (Grow.put (g010.trans gg) hHl hs12 _) hHl hs12 upd_same ?_ rfl rfl fin
        rw [hset]
        exact Reps.set (rx.mono g12.hs) k (rL10.mono gg.hs)
    have k4 : way = ((0 : Nat) : Int) ∨ way = ((1 : Nat) : Int) ∨ way = ((2 : Nat) : Int) ∨ way = ((3 : Nat) : Int) := by lia
    have hix : ∀ (k : Nat) (d : D), way = k → (lst4 (c0 n m))[k]? = some d → fIxOwn 3 (fVar 4) [some (.val (.scr ns)), some (.val (.int n)), some (.val (.int m)), some (.own (lst4 (c0 n m))), some (.val (.int way)), some (.val (.int tn)), none, none, none, none, none, none] = some d := fun k d hk hd => by
      show atI (lst4 (c0 n m)) way = _
      rw [hk]
      exact atI_nat hd
    have lr : ∀ {α : Type} (x : α), (List.replicate n x).length ≤ 9 := fun x => by rw [List.length_replicate]; exact hn
    have cl : ∀ {α : Type} (x : α), (cutA tn (List.replicate n x)).length ≤ 1000 := fun x => Nat.le_trans (cutA_len tn _) (by have := lr x; lia)
    rcases k4 with hk | hk | hk | hk
    · exact step 0 ⟨cutA tn (List.replicate n (some 0)), List.replicate n (List.replicate n (some 0)), List.replicate n (List.replicate m none), List.replicate n (some 1)⟩ _ _ hk rfl (small_mk (cl _) (Nat.le_trans (lr _) (by decide)) (Nat.le_trans (lr _) (by decide)) fun r hr => Nat.le_trans (small0 r hr) (by decide)) rfl (valA_eq encC (List.replicate n (some 0)) (Nat.le_trans (lr _) (by decide)) rfl (hix 0 _ hk rfl)) (by decide)
    · exact step 1 ⟨List.replicate n (some 0), cutA tn (List.replicate n (List.replicate n (some 0))), List.replicate n (List.replicate m none), List.replicate n (some 1)⟩ _ _ hk rfl (small_mk (Nat.le_trans (lr _) (by decide)) (cl _) (Nat.le_trans (lr _) (by decide)) fun r hr => Nat.le_trans (small0 r hr) (by decide)) rfl (valA_eq encL (List.replicate n (List.replicate n (some 0))) (Nat.le_trans (lr _) (by decide)) rfl (hix 1 _ hk rfl)) (by decide)
    · exact step 2 ⟨List.replicate n (some 0), List.replicate n (List.replicate n (some 0)), cutA tn (List.replicate n (List.replicate m none)), List.replicate n (some 1)⟩ _ _ hk rfl (small_mk (Nat.le_trans (lr _) (by decide)) (Nat.le_trans (lr _) (by decide)) (cl _) fun r hr => Nat.le_trans (small0 r (cutA_mem hr)) (by decide)) rfl (valA_eq encL (List.replicate n (List.replicate m none)) (Nat.le_trans (lr _) (by decide)) rfl (hix 2 _ hk rfl)) (by decide)
    · exact step 3 ⟨List.replicate n (some 0), List.replicate n (List.replicate n (some 0)), List.replicate n (List.replicate m none), cutA tn (List.replicate n (some 1))⟩ _ _ hk rfl (small_mk (Nat.le_trans (lr _) (by decide)) (Nat.le_trans (lr _) (by decide)) (Nat.le_trans (lr _) (by decide)) fun r hr => Nat.le_trans (small0 r hr) (by decide)) rfl (valA_eq encC (List.replicate n (some 1)) (Nat.le_trans (lr _) (by decide)) rfl (hix 3 _ hk rfl)) (by decide)
  · rw [if_neg (by rw [decide_eq_false hA]; exact Bool.false_ne_true)]
    have eB : bAnd (bTest (f2 gLt (fVar 4) (fC (.int 6)))) (bTest (f2 gGt (fVar 1) (fC (.int 0)))) [some (.val (.scr ns)), some (.val (.int n)), some (.val (.int m)), some (.own (lst4 (c0 n m))), some (.val (.int way)), none, none, none, none, none, none, none] = some (decide (way < 6) && decide ((0 : Int) < n)) := by
      by_cases z : way < 6
      · rw [bAnd_t (bTest_eq (b := true) (by show some (D.bl (decide (way < 6))) = _; rw [decide_eq_true z])) (bTest_eq (b := decide ((0 : Int) < n)) rfl), decide_eq_true z]
        rfl
      · rw [bAnd_f (bTest_eq (b := false) (by show some (D.bl (decide (way < 6))) = _; rw [decide_eq_false z])), decide_eq_false z]
        rfl
    refine ⟨_, _, _, st5, eB, fun H10 Hs10 g10 => ?_⟩
    have st6 := st5.grow g10
    have rL10 := rL9.mono g10.hs
    have hl10 := g10.h _ _ hl9
    have hs10 := Grow.apart g10 hs9 (by rw [hl9]; simp)
    have g010 := g09.trans g10
    clear st5 rL9 hl9 hs9 g09 g10 eB
    have lr : ∀ {α : Type} (x : α), (List.replicate n x).length ≤ 9 := fun x => by rw [List.length_replicate]; exact hn
    dsimp only
    by_cases hB : way < 6 ∧ (0 : Int) < n
    case neg =>
      rw [if_neg (by rw [Bool.and_eq_true, decide_eq_true_eq, decide_eq_true_eq]; exact hB)]
      exact rest_rd (c := c0 n m) (l := l) (small_mk (Nat.le_trans (lr _) (by decide)) (Nat.le_trans (lr _) (by decide)) (Nat.le_trans (lr _) (by decide)) fun r hr => Nat.le_trans (small0 r hr) (by decide)) sm g010 hHl hs10 hl10 rL10 rfl rfl fin
    rw [if_pos (by rw [decide_eq_true hB.1, decide_eq_true hB.2]; rfl)]
    obtain ⟨at_, hat⟩ : ∃ y : Nat, (y : Int) = mixN ns 4 % (n : Int) := ⟨(mixN ns 4 % (n : Int)).toNat, by have := Int.emod_nonneg (mixN ns 4) (b := (n : Int)) (by lia); lia⟩
    have hatn : at_ < n := by have := Int.emod_lt_of_pos (mixN ns 4) hB.2; lia
    refine ⟨_, _, .int at_, st6, ?_, fun v6 H11 Hs11 g11 r11 => ?_⟩
    · rw [hat]
      refine (f2_eq (x := .int (mixN ns 4)) (y := .int n) rfl rfl).trans ?_
      show (if (0 : Int) < n then some (D.int (mixN ns 4 % (n : Int))) else none) = _
      rw [if_pos hB.2]
    cases r11
    have st7 := (st6.grow g11).set (i := 6) (s := .val (.int at_)) (v := .int at_) (.int _)
    have rL11 := rL10.mono g11.hs
    have hl11 := g11.h _ _ hl10
    have hs11 := Grow.apart g11 hs10 (by rw [hl10]; simp)
    have g011 := g010.trans g11
    clear st6 rL10 hl10 hs10 g010 g11
    obtain ⟨tn, htn⟩ : ∃ y : Int, y = mixN ns 3 % 2 := ⟨_, rfl⟩
    have k2 : way - 3 = ((1 : Nat) : Int) ∨ way - 3 = ((2 : Nat) : Int) := by lia
    have hix : ∀ (k : Nat) (d : D), way - 3 = k → (lst4 (c0 n m))[k]? = some d → fIxOwn 3 (f2 DL.gSub (fVar 4) (fC (.int 3))) [some (.val (.scr ns)), some (.val (.int n)), some (.val (.int m)), some (.own (lst4 (c0 n m))), some (.val (.int way)), none, some (.val (.int at_)), none, none, none, none, none] = some d := fun k d hk hd => by
      show atI (lst4 (c0 n m)) (way - 3) = _
      rw [hk]
      exact atI_nat hd
    have hrow : ∀ (k : Nat) (r : List (Option Int)), way - 3 = k → (lst4 (c0 n m))[k]? = some (encLL (List.replicate n r)) → f2 gIx (fIxOwn 3 (f2 DL.gSub (fVar 4) (fC (.int 3)))) (fVar 6) [some (.val (.scr ns)), some (.val (.int n)), some (.val (.int m)), some (.own (lst4 (c0 n m))), some (.val (.int way)), none, some (.val (.int at_)), none, none, none, none, none] = some (encL r) := fun k r hk hd => by
      refine (f2_eq (hix k _ hk hd) (y := .int at_) rfl).trans ?_
      rw [encLL_rep]
      show atI (List.replicate n (encL r)) ((at_ : Nat) : Int) = _
      exact atI_nat (by rw [List.getElem?_replicate, if_pos hatn])
    have htnE : f2 gMod (fA F_Lmix (aCons (fVar 0) (aCons (fC (.int 3)) aNil))) (fC (.int 2)) [some (.val (.scr ns)), some (.val (.int n)), some (.val (.int m)), some (.own (lst4 (c0 n m))), some (.val (.int way)), none, some (.val (.int at_)), none, none, none, none, none] = some (.int tn) := by rw [htn]; exact mixMod rfl (by decide)
    have step : ∀ (k : Nat) (p : Addr) (r : List (Option Int)), way - 3 = k → (lst4 (c0 n m))[k]? = some (encLL (List.replicate n r)) → r.length ≤ 900 → ([x0, .ref p1, .ref p2, x3] : List L2.V)[k]? = some (.ref p) →
        (∀ (x : L2.V) (H14 Hs14 : Hp) (us : List L2.V), Grow Hs H Hs14 H14 → Hs14 l = none → H14 l = some (.lst [x0, .ref p1, .ref p2, x3]) → Reps K Hs14 (lst4 (c0 n m)) [x0, .ref p1, .ref p2, x3] → Rep K Hs14 (encL (cutB tn r)) x → Hs14 p = some (.lst us) → Reps K Hs14 ((List.replicate n r).map encL) us →
          tFS K (g_law C CB) { nx := fun _ H' => Q .non H', rt := Q } [some v0, some (.int n), some (.int m), some (.ref l), some (.int way), none, some (.int at_), none, none, none, none, none] (upd H14 p (.lst (us.set at_ x)))) →
        tAsg (tF K (fIf (bTest (f2 gEq (f2 gMod (fA F_Lmix (aCons (fVar 0) (aCons (fC (.int 3)) aNil))) (fC (.int 2))) (fC (.int 0)))) (fSl (f2 gIx (fIxOwn 3 (f2 DL.gSub (fVar 4) (fC (.int 3)))) (fVar 6)) (oSome (fC (.int 1))) oNone) (f2 gAdd (f2 gIx (fIxOwn 3 (f2 DL.gSub (fVar 4) (fC (.int 3)))) (fVar 6)) (fA gLst (aCons (fC (.int 0)) aNil))))) (L2.gSub (tOp (rIxL K) (tVar 3) (tF K (f2 DL.gSub (fVar 4) (fC (.int 3))))) (tF K (fVar 6)) rSetL) { nx := tFS K (g_law C CB) { nx := fun _ H' => Q .non H', rt := Q }, rt := Q } [some v0, some (.int n), some (.int m), some (.ref l), some (.int way), none, some (.int at_), none, none, none, none, none] H11 := fun k p r hk hd hr900 hp fin2 => by
      refine ⟨_, _, _, st7, valB_eq r hr900 htnE (hrow k r hk hd), fun x H12 Hs12 g12 rx => ⟨.ref l, rfl, _, _, .int (way - 3), st7.grow g12, rfl, fun iv H13 Hs13 g13 ri => ?_⟩⟩
      cases ri
      have gg := g12.trans g13
      have hl13 := gg.h _ _ hl11
      refine ⟨l, _, way - 3, .ref p, rfl, rfl, SqL.of hl13, by rw [hk]; exact atI_nat hp, _, _, .int at_, st7.grow gg, rfl, fun jv H14 Hs14 g14 rj => ?_⟩
      cases rj
      have gg2 := gg.trans g14
      have hs14 := Grow.apart gg2 hs11 (by rw [hl11]; simp)
      have rL14 := rL11.mono gg2.hs
      obtain ⟨u, hu, ru⟩ := rL14.get hd
      rw [hp] at hu
      cases hu
      cases ru with
      | @lst _ us _ h1 r1 =>
        refine ⟨p, us, at_, at_, rfl, rfl, g14.sub _ _ h1, ?_, fin2 x H14 Hs14 us (g011.trans gg2) hs14 (gg2.h _ _ hl11) rL14 (rx.mono (g13.trans g14).hs) h1 r1⟩
        have hul : us.length = n := by rw [← r1.length, List.length_map, List.length_replicate]
        unfold ixN
        rw [hul, if_pos (by lia), if_pos (by lia), Int.toNat_natCast]
    have setL : ∀ {α : Type} (x y : α), ((List.replicate n x).set at_ y).length ≤ 9 := fun x y => by rw [List.length_set]; exact lr x
    rcases k2 with hk | hk
    · refine step 1 p1 (List.replicate n (some 0)) hk rfl (Nat.le_trans (lr _) (by decide)) rfl fun x H14 Hs14 us g14 hs14 hl14 rL14 rx h1 r1 => ?_
      obtain ⟨z, zs, rfl⟩ := rows_ref (by intro q; have := congrArg List.length q; rw [List.length_replicate, List.length_nil] at this; lia) r1
      have nel : l ≠ p1 := fun q => by rw [← q, hs14] at h1; cases h1
      refine rest_rd (c := ⟨List.replicate n (some 0), (List.replicate n (List.replicate n (some 0))).set at_ (cutB tn (List.replicate n (some 0))), List.replicate n (List.replicate m none), List.replicate n (some 1)⟩) (l := l) (xs := [x0, .ref p1, .ref p2, x3])
        (small_mk (Nat.le_trans (lr _) (by decide)) (Nat.le_trans (setL _ _) (by decide)) (Nat.le_trans (lr _) (by decide)) fun r hr => Nat.le_trans (small0 r hr) (by decide)) sm (Grow.put2 g14 hHp1 sm _) hHl (by rw [upd_ne nel]; exact hs14) (by rw [upd_ne nel]; exact hl14) ?_ rfl rfl fin
      cases rL14 with
      | cons a0 rL14 =>
      cases rL14 with
      | cons a1 rL14 =>
      cases rL14 with
      | cons a2 rL14 =>
      cases rL14 with
      | cons a3 rL14 =>
      cases rL14
      exact .cons (Rep.encL_upd h1 a0) (.cons (.lst upd_same (Reps.setL (Reps.encL_upd h1 r1) (Rep.encL_upd h1 rx))) (.cons (Rep.encLL_upd h1 (Ne.symm ne12) a2) (.cons (Rep.encL_upd h1 a3) .nil)))
    · refine step 2 p2 (List.replicate m none) hk rfl (by rw [List.length_replicate]; lia) rfl fun x H14 Hs14 us g14 hs14 hl14 rL14 rx h1 r1 => ?_
      obtain ⟨z, zs, rfl⟩ := rows_ref (by intro q; have := congrArg List.length q; rw [List.length_replicate, List.length_nil] at this; lia) r1
      have nel : l ≠ p2 := fun q => by rw [← q, hs14] at h1; cases h1
      refine rest_rd (c := ⟨List.replicate n (some 0), List.replicate n (List.replicate n (some 0)), (List.replicate n (List.replicate m none)).set at_ (cutB tn (List.replicate m none)), List.replicate n (some 1)⟩) (l := l) (xs := [x0, .ref p1, .ref p2, x3])
        (small_mk (Nat.le_trans (lr _) (by decide)) (Nat.le_trans (lr _) (by decide)) (Nat.le_trans (setL _ _) (by decide)) fun r hr => ?_) sm (Grow.put2 g14 hHp2 sm _) hHl (by rw [upd_ne nel]; exact hs14) (by rw [upd_ne nel]; exact hl14) ?_ rfl rfl fin
      · rcases List.mem_or_eq_of_mem_set hr with q | q
        · exact Nat.le_trans (small0 r q) (by decide)
        · rw [q]
          exact Nat.le_trans (cutB_len tn _) (by rw [List.length_replicate]; lia)
      cases rL14 with
      | cons a0 rL14 =>
      cases rL14 with
      | cons a1 rL14 =>
      cases rL14 with
      | cons a2 rL14 =>
      cases rL14 with
      | cons a3 rL14 =>
      cases rL14
      exact .cons (Rep.encL_upd h1 a0) (.cons (Rep.encLL_upd h1 ne12 a1) (.cons (.lst upd_same (Reps.setL (Reps.encL_upd h1 r1) (Rep.encL_upd h1 rx))) (.cons (Rep.encL_upd h1 a3) .nil)))
end
end CR
set_option maxHeartbeats 4000000
namespace DL
open PySem PySem.Spec L2
structure DefAt (K : PySem.W.Frag) (x : Str) (st : Stmt) : Prop where
  ex : ∃ (f : Addr) (fd : FuncData), PySem.W.nsIn K mainGlobals x = some (some (.ref f)) ∧ Fun K x x st f fd
theorem defAt_mk {K : PySem.W.Frag} {x : Str} {st : Stmt} {f : Addr} {oc : Value} {od an : Option Addr} {osl : Array (Option Value)} {kV doc pm cdv ct : Value} (a : PySem.W.nsIn K mainGlobals x = some (some (.ref f)))
    (l : K.lookup f = some ⟨oc, od, .func (PySem.W.fnOf x x (defArgs st) (defBody st) (defScope st) .none kV doc pm an cdv ct), osl⟩) (c : PySem.W.codeIn K cdv x = true) (k : PySem.W.keepIn K (.ref f) = true) : DefAt K x st := ⟨f, _, a, fun_mk l c k⟩
structure MethAt (K : PySem.W.Frag) (C : Addr) (m qual : Str) (st : Stmt) : Prop where
  ex : ∃ (f : Addr) (fd : FuncData), PySem.W.findIn K (.ref C) m = some (some (.ref f)) ∧ PySem.W.isFn K (.ref f) = true ∧ Fun K m qual st f fd
theorem methAt_mk {K : PySem.W.Frag} {C : Addr} {m qual : Str} {st : Stmt} {f : Addr} {oc : Value} {od an : Option Addr} {osl : Array (Option Value)} {kV doc pm cdv ct : Value} (a : PySem.W.findIn K (.ref C) m = some (some (.ref f))) (i : PySem.W.isFn K (.ref f) = true)
    (l : K.lookup f = some ⟨oc, od, .func (PySem.W.fnOf m qual (defArgs st) (defBody st) (defScope st) .none kV doc pm an cdv ct), osl⟩) (c : PySem.W.codeIn K cdv qual = true) (k : PySem.W.keepIn K (.ref f) = true) : MethAt K C m qual st := ⟨f, _, a, i, fun_mk l c k⟩
theorem const_mk {K : PySem.W.Frag} {x : Str} {v : Value} {i : Int} (a : PySem.W.nsIn K mainGlobals x = some (some v)) (b : ∃ t, v = .int i t) : ∃ v, PySem.W.nsIn K mainGlobals x = some (some v) ∧ ∃ t, v = .int i t := ⟨v, a, b⟩
theorem kit_bool (K : PySem.W.Frag) : KitOk K "bool" := ⟨fun t h => by
  rcases h with rfl | rfl | rfl | rfl | rfl | rfl <;> kernel_rfl⟩
theorem kit_int (K : PySem.W.Frag) : KitOk K "int" := ⟨fun t h => by
  rcases h with rfl | rfl | rfl | rfl | rfl | rfl <;> kernel_rfl⟩
theorem len1 {α : Type} {us : List α} (h : us.length = 1) : ∃ a, us = [a] := by
  match us, h with
  | [a], _ => exact ⟨a, rfl⟩
theorem len2 {α : Type} {us : List α} (h : us.length = 2) : ∃ a b, us = [a, b] := by
  match us, h with
  | [a, b], _ => exact ⟨a, b, rfl⟩
theorem len3 {α : Type} {us : List α} (h : us.length = 3) : ∃ a b c, us = [a, b, c] := by
  match us, h with
  | [a, b, c], _ => exact ⟨a, b, c, rfl⟩
theorem len4 {α : Type} {us : List α} (h : us.length = 4) : ∃ a b c d, us = [a, b, c, d] := by
  match us, h with
  | [a, b, c, d], _ => exact ⟨a, b, c, d, rfl⟩
theorem len5 {α : Type} {us : List α} (h : us.length = 5) : ∃ a b c d e, us = [a, b, c, d, e] := by
  match us, h with
  | [a, b, c, d, e], _ => exact ⟨a, b, c, d, e, rfl⟩
end DL
namespace DL
open PySem PySem.Spec L2 PyProof.Rows
theorem own_mk {K : PySem.W.Frag} {h : Heap} {mg : Str → Option Value} {x : Str} {C : Addr} {bmB : List Value} {newId : String} (X : K.In h) (G : h.Ns mainGlobals mg) (e : PySem.W.nsIn K mainGlobals x = some (some (.ref C))) (q : PySem.W.excIn K C bmB newId = true) : OwnCls x C bmB newId mg h := by
  refine ⟨PySem.W.mg_of X G e, ?_⟩
  unfold PySem.W.excIn at q
  split at q
  case h_2 => cases q
  rename_i dd cd sl look
  split at q
  case h_2 => cases q
  rename_i c1 below s0 s1 s2 s3 made s5 order slots
  simp only [Bool.and_eq_true, beq_iff_eq, Bool.not_eq_true'] at q
  obtain ⟨⟨⟨⟨⟨q1, q2⟩, q3⟩, q4⟩, q5⟩, q6⟩ := q
  subst q1 q2
  obtain ⟨c_name, c_bases, c_mro, c_ns, c_qual, c_dict, c_slots, c_sub, c_abs, c_col, c_del⟩ := cd
  dsimp only at order q3 q5 q6
  subst order q3
  have hs : sl = #[s0, s1, s2, s3, some (.builtin made), s5] := Array.toList_inj.mp slots
  subst hs
  exact ⟨below, c_ns, c_name, c_qual, c_bases, c_dict, c_slots, c_sub, c_abs, c_col, dd, s0, s1, s2, s3, s5, _, X _ _ look, .of_isNs (PySem.W.isNs_of_in X q5), PySem.W.nsMap_none_of_in X q5 q6, PySem.W.tail_of_in X q4⟩
end DL
set_option maxHeartbeats 4000000
namespace CR
open PySem PySem.Spec L2 DL PyProof.Rows
theorem all_mk {l : PySem.W.OpenLaw} {w : World} {K : PySem.W.Frag} {h : Heap} {mg : Str → Option Value} {fa C CB CR C1 C2 : Addr} (X : K.In h) (G : h.Ns mainGlobals mg) (hfa : mg "law" = some (.ref fa))
    (aC : PySem.W.nsIn K mainGlobals "Chain" = some (some (.ref C)))
    (u_check_states : DefAt K "check_states" s_check_states)
    (u_check_rows : DefAt K "check_rows" s_check_rows)
    (u_check_signs : DefAt K "check_signs" s_check_signs)
    (u_Lcell : DefAt K "_law_cell" s_Lcell)
    (u_Lmix : DefAt K "_law_mix" s_Lmix)
    (u_Lwhole : DefAt K "_law_whole" s_Lwhole)
    (u_law : DefAt K "law" s_law)
    (u_init : MethAt K C "__init__" "Chain.__init__" s_init)
    (u_size : MethAt K C "size" "Chain.size" s_size)
    (pg : PySem.W.plainGet K C Str.empty = true)
    (hd : PySem.W.hasDictIn K C = true)
    (po : PySem.W.plainOver K C = true)
    (sa : PySem.W.findIn K (.ref C) "__setattr__" = some (some (.builtin "object.__setattr__")))
    (mk : PySem.W.makesIn K C = true)
    (kc : PySem.W.keepIn K (.ref C) = true)
    (b_ValueError : PySem.W.nsIn K mainGlobals "ValueError" = some none)
    (b_all : PySem.W.nsIn K mainGlobals "all" = some none)
    (b_bool : PySem.W.nsIn K mainGlobals "bool" = some none)
    (b_int : PySem.W.nsIn K mainGlobals "int" = some none)
    (b_isinstance : PySem.W.nsIn K mainGlobals "isinstance" = some none)
    (b_len : PySem.W.nsIn K mainGlobals "len" = some none)
    (b_range : PySem.W.nsIn K mainGlobals "range" = some none)
    (c_MOST_SIGNS : ∃ v, PySem.W.nsIn K mainGlobals "MOST_SIGNS" = some (some v) ∧ ∃ t, v = .int 8 t)
    (c_MOST_STATES : ∃ v, PySem.W.nsIn K mainGlobals "MOST_STATES" = some (some v) ∧ ∃ t, v = .int 8 t)
    (n_starts : PySem.W.findIn K (.ref C) "starts" = some none)
    (xeB : PySem.W.nsIn K mainGlobals "BadChain" = some (some (.ref CB)))
    (xeR : PySem.W.nsIn K mainGlobals "ReadError" = some (some (.ref CR)))
    (xe1 : PySem.W.nsIn K mainGlobals "BadWords" = some (some (.ref C1)))
    (xe2 : PySem.W.nsIn K mainGlobals "BadGrammar" = some (some (.ref C2)))
    (xin : PySem.W.excIn K CB [.type "ValueError", .type "Exception", .type "BaseException", .type "object"] "ValueError.__new__" = true)
    (xga : PySem.W.findIn K (.ref CB) "__getattribute__" = some (some (.builtin "BaseException.__getattribute__")))
    (xgh : PySem.W.findIn K (.ref CB) "__getattr__" = some none)
    (xcl : PySem.W.findIn K (.ref CB) "__class__" = some (some (.builtin "object.__class__")))
    (xmb : PySem.W.mroIn K CB (.type "BaseException") = some true)
    (xmo : PySem.W.mroIn K CB (.type "object") = some true)
    (xic : PySem.W.isClsIn K CB = true)
    (xk1 : PySem.W.kitAny K (.type "NoneType") [.ref CB] = some false)
    (xk2 : PySem.W.kitAny K (.ref CB) [.ref CB] = some true)
    (xk3 : PySem.W.kitAny K (.type "NoneType") [.type "ValueError"] = some false)
    (xk4 : PySem.W.kitAny K (.ref CB) [.type "ValueError"] = some true)
    (xk5 : PySem.W.kitAny K (.type "NoneType") [.ref C1, .ref C2] = some false)
    (xk6 : PySem.W.kitAny K (.ref CB) [.ref C1, .ref C2] = some false)
    (xem : PySem.W.exmOne K (.ref CB) (.ref CR) = some true)
    (tl : PySem.W.nsIn K mainGlobals "list" = some none)
    (ne : PySem.W.findIn K (.ref C) "ends" = some none)
    (nsi : PySem.W.findIn K (.ref C) "signs" = some none)
    (nst : PySem.W.findIn K (.ref C) "steps" = some none) :
    ∃ fd : FuncData, (∀ (s : Shared) (v : Value), BindsTo s fd ⟨[v], []⟩ [("_law_script", v)]) ∧ ∀ base : Heap, K.In base → base.Ns mainGlobals mg → FnOk l.prog w K mg base CX0 5 fa fd ["_law_script"] (spLaw K) := by
  have T : Txt K mg C := ⟨PySem.W.mg_none_of X G b_ValueError, PySem.W.mg_none_of X G b_all, PySem.W.mg_none_of X G b_bool, PySem.W.mg_none_of X G b_int, PySem.W.mg_none_of X G b_isinstance, PySem.W.mg_none_of X G b_len, PySem.W.mg_none_of X G b_range, let ⟨v, e, t, ev⟩ := c_MOST_SIGNS; ⟨t, by rw [← ev]; exact PySem.W.mg_of X G e⟩, let ⟨v, e, t, ev⟩ := c_MOST_STATES; ⟨t, by rw [← ev]; exact PySem.W.mg_of X G e⟩, ⟨pg, hd, po, sa⟩, DL.kit_bool K, DL.kit_int K, n_starts⟩
  obtain ⟨f_check_states, fd_check_states, a_check_states, U_check_states⟩ := u_check_states.ex
  obtain ⟨f_check_rows, fd_check_rows, a_check_rows, U_check_rows⟩ := u_check_rows.ex
  obtain ⟨f_check_signs, fd_check_signs, a_check_signs, U_check_signs⟩ := u_check_signs.ex
  obtain ⟨f_Lcell, fd_Lcell, a_Lcell, U_Lcell⟩ := u_Lcell.ex
  obtain ⟨f_Lmix, fd_Lmix, a_Lmix, U_Lmix⟩ := u_Lmix.ex
  obtain ⟨f_Lwhole, fd_Lwhole, a_Lwhole, U_Lwhole⟩ := u_Lwhole.ex
  obtain ⟨f_law, fd_law, a_law, U_law⟩ := u_law.ex
  obtain ⟨f_init, fd_init, a_init, i_init, U_init⟩ := u_init.ex
  obtain ⟨f_size, fd_size, a_size, i_size, U_size⟩ := u_size.ex
  have b_check_states_ := U_check_states.binds (ps := ["starts", "steps", "signs", "ends"]) fun _ _ _ _ _ _ us hl => by obtain ⟨_, _, _, _, rfl⟩ := DL.len4 hl; rfl
  have b_check_rows_ := U_check_rows.binds (ps := ["rows", "width", "what"]) fun _ _ _ _ _ _ us hl => by obtain ⟨_, _, _, rfl⟩ := DL.len3 hl; rfl
  have b_check_signs_ := U_check_signs.binds (ps := ["signs"]) fun _ _ _ _ _ _ us hl => by obtain ⟨_, rfl⟩ := DL.len1 hl; rfl
  have b_Lcell_ := U_Lcell.binds (ps := ["_law_script", "_law_k"]) fun _ _ _ _ _ _ us hl => by obtain ⟨_, _, rfl⟩ := DL.len2 hl; rfl
  have b_Lmix_ := U_Lmix.binds (ps := ["_law_script", "_law_k"]) fun _ _ _ _ _ _ us hl => by obtain ⟨_, _, rfl⟩ := DL.len2 hl; rfl
  have b_Lwhole_ := U_Lwhole.binds (ps := ["_law_found"]) fun _ _ _ _ _ _ us hl => by obtain ⟨_, rfl⟩ := DL.len1 hl; rfl
  have b_init_ := U_init.binds (ps := ["self", "starts", "steps", "signs", "ends"]) fun _ _ _ _ _ _ us hl => by obtain ⟨_, _, _, _, _, rfl⟩ := DL.len5 hl; rfl
  have b_size_ := U_size.binds (ps := ["self"]) fun _ _ _ _ _ _ us hl => by obtain ⟨_, rfl⟩ := DL.len1 hl; rfl
  have e := hfa.symm.trans (PySem.W.mg_of X G a_law)
  cases e
  obtain ⟨oc, od, kV, doc, pm, an, cdv, ct, osl, rfl, lk, hcd⟩ := id U_law.ex
  refine ⟨PySem.W.fnOf "law" "law" (defArgs s_law) (defBody s_law) (defScope s_law) .none kV doc pm an cdv ct, fun s v => .of_eq rfl, fun base kb nb => ?_⟩
  have xk : PySem.W.ExcKit K CB := ⟨xga, xgh, xcl, xmb, xmo, xic⟩
  have V : Exn K mg base CB CR C1 C2 := ⟨DL.own_mk kb nb xeB xin, PySem.W.mg_of X G xeB, PySem.W.mg_of X G xeR, PySem.W.mg_of X G xe1, PySem.W.mg_of X G xe2, ⟨xk1, xk2, xk⟩, ⟨xk3, xk4, xk⟩, ⟨xk5, xk6, xk⟩, xem⟩
  have d_size : Dm l.prog w K mg base 1 C "size" ["self"] (F_size C) := ⟨_, _, ⟨a_size, i_size, U_size.kp⟩, b_size_, fn_F U_size fs_size (fun ds d h => by unfold F_size at h; split at h <;> first | rfl | cases h) (fun cdv A outer s H E hr => t_size T  cdv A outer s H E hr) (fun ds d h => m_size h)⟩
  have d_check_states : Dx l.prog w K mg base 1 "check_states" ["starts", "steps", "signs", "ends"] (FX_check_states CB) := dx_F (PySem.W.mg_of X G a_check_states) U_check_states b_check_states_ fs_check_states (fun ds d h => by unfold FX_check_states at h; split at h <;> first | rfl | cases h) (fun cdv A outer s H E hr => t_check_states T V cdv A outer s H E hr) (fun ds d h => m_check_statesX h)
  have d_check_rows : Dx l.prog w K mg base 1 "check_rows" ["rows", "width", "what"] (FX_check_rows CB) := dx_F (PySem.W.mg_of X G a_check_rows) U_check_rows b_check_rows_ fs_check_rows (fun ds d h => by unfold FX_check_rows at h; split at h <;> first | rfl | cases h) (fun cdv A outer s H E hr => t_check_rows T V cdv A outer s H E hr) (fun ds d h => m_check_rowsX h)
  have d__law_cell : Df l.prog w K mg base 1 "_law_cell" ["_law_script", "_law_k"] F_Lcell := df_F (PySem.W.mg_of X G a_Lcell) U_Lcell b_Lcell_ fs_Lcell (fun ds d h => by unfold F_Lcell at h; split at h <;> first | rfl | cases h) (fun cdv A outer s H E hr => t_Lcell T  cdv A outer s H E hr) (fun ds d h => m_Lcell h)
  have d__law_whole : Df l.prog w K mg base 1 "_law_whole" ["_law_found"] F_Lwhole := df_F (PySem.W.mg_of X G a_Lwhole) U_Lwhole b_Lwhole_ fs_Lwhole (fun ds d h => by unfold F_Lwhole at h; split at h <;> first | rfl | cases h) (fun cdv A outer s H E hr => t_Lwhole T  cdv A outer s H E hr) (fun ds d h => m_Lwhole h)
  have d_check_signs : Dx l.prog w K mg base 2 "check_signs" ["signs"] (FX_check_signs CB) := dx_F (PySem.W.mg_of X G a_check_signs) U_check_signs b_check_signs_ fs_check_signs (fun ds d h => by unfold FX_check_signs at h; split at h <;> first | rfl | cases h) (fun cdv A outer s H E hr => t_check_signs T V d_check_rows cdv A outer s H E hr) (fun ds d h => m_check_signsX h)
  have d__law_mix : Df l.prog w K mg base 2 "_law_mix" ["_law_script", "_law_k"] F_Lmix := df_F (PySem.W.mg_of X G a_Lmix) U_Lmix b_Lmix_ fs_Lmix (fun ds d h => by unfold F_Lmix at h; split at h <;> first | rfl | cases h) (fun cdv A outer s H E hr => t_Lmix T d__law_cell cdv A outer s H E hr) (fun ds d h => m_Lmix h)
  have d_Chain : Dk l.prog w K mg base 3 "Chain" C ps_Chain ns_Chain (FM_Chain C CB) := ⟨_, _, ⟨mk, a_init, i_init, kc⟩, PySem.W.mg_of X G aC, b_init_, ok_initX U_init T (PySem.W.mg_none_of X G tl) T.n_starts nst nsi ne d_check_states d_check_rows d_check_signs⟩
  exact ok_law U_law T V d_Chain d__law_whole d__law_mix d_size
theorem walk {l : PySem.W.OpenLaw} {q : Program} {loose : List Str} {XP : (Str → Option Value) → Heap → Prop} {YP : World → Heap → Prop} {d : DefRec} {K : Params → PySem.W.Frag} (hn : l.most = some 63) (hdf : d.params.defaults = [])
    (hY : ∀ (w : World) (h : Heap), YP w h → (K w.params).In h)
    (F : ∀ (w : World) (mg : Str → Option Value) (fa : Addr) (h : Heap), (K w.params).In h → h.Ns mainGlobals mg → mg d.name = some (.ref fa) →
      ∃ fd : FuncData, (∀ (s : Shared) (u : Value), BindsTo s fd ⟨[u], []⟩ [("_law_script", u)]) ∧ ∀ base : Heap, (K w.params).In base → base.Ns mainGlobals mg → FnOk l.prog w (K w.params) mg base CX0 5 fa fd ["_law_script"] (spLaw (K w.params))) :
    PySem.W.WalkO q loose XP YP l.row.toRowW d [] (fun f vs => PySem.call f vs) :=
  L2.walk_of (n := 63) (k := 5) (x := "_law_script") (CX := fun _ => CX0) (sp := fun w => spLaw (K w.params)) hn (by decide) hdf ⟨rfl, by decide, by decide⟩ hY F (fun _ _ a ns hl _ hS => ⟨_, [.scr ns], .bl true, Same.refl _, .cons (.scr hS) .nil, rfl, fun v H' Hs' g r => by cases r; rfl⟩) fun _ _ _ _ _ z => z
end CR
open PySem PySem.W PyProof.Rows CR
set_option maxRecDepth 100000 in
set_option maxHeartbeats 0 in
theorem PySem.Challenge.cw_cheapread_k02_no_chains_holds : PySem.Challenge.rw_cheapread_k02_no_chains.Holds := by
  w_on; o_law; k_head; (case hw => w_witness2)
  k_fill
  refine CR.walk (l := PySem.Challenge.rw_cheapread_k02_no_chains) rfl rfl (fun w h Y => PySem.W.kIn_of Y) ?F
  case F =>
    intro w mg fa h KX G hmg
    refine' CR.all_mk KX G hmg ?aC ?u_check_states ?u_check_rows ?u_check_signs ?u_Lcell ?u_Lmix ?u_Lwhole ?u_law ?u_init ?u_size ?pg ?hd ?po ?sa ?mk ?kc ?b_ValueError ?b_all ?b_bool ?b_int ?b_isinstance ?b_len ?b_range ?c_MOST_SIGNS ?c_MOST_STATES ?n_starts ?xeB ?xeR ?xe1 ?xe2 ?xin ?xga ?xgh ?xcl ?xmb ?xmo ?xic ?xk1 ?xk2 ?xk3 ?xk4 ?xk5 ?xk6 ?xem ?tl ?ne ?nsi ?nst
    (case aC => k_is)
    (case u_check_states => refine' DL.defAt_mk ?a ?l ?c ?k; (case a => k_is); (case l => k_is); (case c => k_is); (case k => k_is))
    (case u_check_rows => refine' DL.defAt_mk ?a ?l ?c ?k; (case a => k_is); (case l => k_is); (case c => k_is); (case k => k_is))
    (case u_check_signs => refine' DL.defAt_mk ?a ?l ?c ?k; (case a => k_is); (case l => k_is); (case c => k_is); (case k => k_is))
    (case u_Lcell => refine' DL.defAt_mk ?a ?l ?c ?k; (case a => k_is); (case l => k_is); (case c => k_is); (case k => k_is))
    (case u_Lmix => refine' DL.defAt_mk ?a ?l ?c ?k; (case a => k_is); (case l => k_is); (case c => k_is); (case k => k_is))
    (case u_Lwhole => refine' DL.defAt_mk ?a ?l ?c ?k; (case a => k_is); (case l => k_is); (case c => k_is); (case k => k_is))
    (case u_law => refine' DL.defAt_mk ?a ?l ?c ?k; (case a => k_is); (case l => k_is); (case c => k_is); (case k => k_is))
    (case u_init => refine' DL.methAt_mk ?a ?i ?l ?c ?k; (case a => k_is); (case i => k_is); (case l => k_is); (case c => k_is); (case k => k_is))
    (case u_size => refine' DL.methAt_mk ?a ?i ?l ?c ?k; (case a => k_is); (case i => k_is); (case l => k_is); (case c => k_is); (case k => k_is))
    (case pg => k_is)
    (case hd => k_is)
    (case po => k_is)
    (case sa => k_is)
    (case mk => k_is)
    (case kc => k_is)
    (case b_ValueError => k_is)
    (case b_all => k_is)
    (case b_bool => k_is)
    (case b_int => k_is)
    (case b_isinstance => k_is)
    (case b_len => k_is)
    (case b_range => k_is)
    (case c_MOST_SIGNS => refine' DL.const_mk ?a ?b; (case a => k_is); (case b => exact ⟨_, rfl⟩))
    (case c_MOST_STATES => refine' DL.const_mk ?a ?b; (case a => k_is); (case b => exact ⟨_, rfl⟩))
    (case n_starts => k_is)
    (case xeB => k_is)
    (case xeR => k_is)
    (case xe1 => k_is)
    (case xe2 => k_is)
    (case xin => k_exc)
    (case xga => k_is)
    (case xgh => k_is)
    (case xcl => k_is)
    (case xmb => k_is)
    (case xmo => k_is)
    (case xic => k_is)
    (case xk1 => kernel_rfl)
    (case xk2 => kernel_rfl)
    (case xk3 => kernel_rfl)
    (case xk4 => kernel_rfl)
    (case xk5 => kernel_rfl)
    (case xk6 => kernel_rfl)
    (case xem => kernel_rfl)
    (case tl => k_is)
    (case ne => k_is)
    (case nsi => k_is)
    (case nst => k_is)
#print axioms PySem.Challenge.cw_cheapread_k02_no_chains_holds
