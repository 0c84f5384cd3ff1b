import PyProof.Rows.All
import Wide.All
import OpenK.AllK
import Wide.FinOn
import PyProof.EqAt
import PyProof.EqKinds
import PyProof.TupleCall
import KE.BitLaws
import KE.KTab
import KE.KTabLook
import KE.OsGo
import Open.SpecLaws
import PySem.Challenge.RW_lesserchip_s02_show
set_option Elab.async false
set_option linter.all false
set_option maxRecDepth 100000
namespace Internal
-- CHANGE: your row's module here, as the last of these rows
set_option genSizeOf false
set_option genSizeOfSpec false
set_option genSizeOf false
set_option genSizeOfSpec false
namespace L2
open PySem PySem.Spec PyProof.Rows
noncomputable abbrev Key := Sum Int Str
noncomputable def keyIs : Key → Value → Bool
  | .inl k, v => Value.isInt k v
  | .inr x, v => Value.isStrOf x v
noncomputable def keyH (w : World) : Key → Int
  | .inl k => hashInt k
  | .inr x => hashStr w x
theorem keyIs_shape : ∀ {k : Key} {v : Value}, keyIs k v = true → (∃ i t, k = Sum.inl i ∧ v = Value.int i t) ∨ (∃ x t, k = Sum.inr x ∧ v = Value.str x t)
  | .inl i, v, h => by
    obtain ⟨t, e⟩ := Value.isInt_shape (k := i) (v := v) h
    exact .inl ⟨i, t, rfl, e⟩
  | .inr x, v, h => by
    obtain ⟨t, e⟩ := Value.isStrOf_shape (x := x) (v := v) h
    exact .inr ⟨x, t, rfl, e⟩
theorem key_ll (a b : Int) : decide ((Sum.inl a : Key) = Sum.inl b) = (a == b) := by
  by_cases e : a = b
  · subst e; simp
  · have h : ¬ (Sum.inl a : Key) = Sum.inl b := fun q => e (Sum.inl.inj q)
    rw [decide_eq_false h]
    exact (beq_eq_false_iff_ne.mpr e).symm
theorem key_rr (a b : Str) : decide ((Sum.inr a : Key) = Sum.inr b) = decide (a = b) := by
  by_cases e : a = b
  · subst e; simp
  · have h : ¬ (Sum.inr a : Key) = Sum.inr b := fun q => e (Sum.inr.inj q)
    rw [decide_eq_false h, decide_eq_false e]
theorem key_lr (a : Int) (b : Str) : decide ((Sum.inl a : Key) = Sum.inr b) = false := decide_eq_false (fun q => nomatch q)
theorem key_rl (a : Str) (b : Int) : decide ((Sum.inr a : Key) = Sum.inl b) = false := decide_eq_false (fun q => nomatch q)

noncomputable def mixKind (prog : Program) (w : World) : PySem.KeyKind prog w Key where
  is := keyIs
  hash := keyH w
  inj := fun v a b ha hb => by
    rcases keyIs_shape ha with ⟨i, t, rfl, rfl⟩ | ⟨x, t, rfl, rfl⟩
    · rcases keyIs_shape hb with ⟨j, u, rfl, e⟩ | ⟨y, u, rfl, e⟩
      · injection e with e1 _; rw [e1]
      · exact nomatch e
    · rcases keyIs_shape hb with ⟨j, u, rfl, e⟩ | ⟨y, u, rfl, e⟩
      · exact nomatch e
      · injection e with e1 _; rw [e1]
  byValue := fun k v h => by
    rcases keyIs_shape h with ⟨i, t, rfl, rfl⟩ | ⟨x, t, rfl, rfl⟩ <;> rfl
  pyHash := fun hv h => by
    rcases keyIs_shape hv with ⟨i, t, rfl, rfl⟩ | ⟨x, t, rfl, rfl⟩
    · exact wpAny_pyHash_int h
    · exact wpAny_pyHash_str h
  eqBool := fun hu hv h => by
    rcases keyIs_shape hu with ⟨i, t, rfl, rfl⟩ | ⟨x, t, rfl, rfl⟩
    · rcases keyIs_shape hv with ⟨j, u, rfl, rfl⟩ | ⟨y, u, rfl, rfl⟩
      · rw [key_ll] at h; exact wpAny_eqBool_int h
      · rw [key_lr] at h; exact SeqAt.EqAt.int_str i t y u _ _ _ _ h
    · rcases keyIs_shape hv with ⟨j, u, rfl, rfl⟩ | ⟨y, u, rfl, rfl⟩
      · rw [key_rl] at h; exact SeqAt.EqAt.str_int x t j u _ _ _ _ h
      · rw [key_rr] at h; exact wpAny_eqBool_str h
  «strs» := fun k x t v h => by
    rcases keyIs_shape h with ⟨i, u, rfl, e⟩ | ⟨y, u, rfl, e⟩
    · exact nomatch e
    · injection e with e1 _
      subst e1
      cases v <;> rfl

end L2

namespace L2
open PySem PySem.Spec PyProof.Rows
inductive V where
  | non | bl (b : Bool) | int (i : Int) | str (x : Str) | byt (b : Array UInt8) | flt (b : UInt64) | ref (a : Addr) | ty (n : String)
noncomputable instance : DecidableEq V := fun _ _ => Classical.propDecidable _

noncomputable def RelV : V → Value → Prop
  | .non, u => u = Value.none
  | .bl b, u => u = Value.bool b
  | .int i, u => ∃ t, u = Value.int i t
  | .str x, u => ∃ t, u = Value.str x t
  | .byt b, u => ∃ t, u = Value.bytes b t
  | .flt b, u => ∃ t, u = Value.float b t
  | .ref a, u => u = Value.ref a
  | .ty n, u => u = Value.type n

noncomputable abbrev Vals : List V → List Value → Prop := Paired RelV
theorem Vals.length {xs : List V} {us : List Value} (r : Vals xs us) : xs.length = us.length := Paired.length r
theorem Paired.get {α β : Type} {R : α → β → Prop} {l : List α} {m : List β} (h : Paired R l m) {x : α} : ∀ {i : Nat}, l[i]? = some x → ∃ y, m[i]? = some y ∧ R x y := by
  induction h with
  | nil => intro i e; cases e
  | cons r _ ih =>
    intro i e
    cases i with
    | zero => cases e; exact ⟨_, rfl, r⟩
    | succ i => exact ih (i := i) e
theorem Vals.get {xs : List V} {us : List Value} {i : Nat} {x : V} (h : Vals xs us) (e : xs[i]? = some x) : ∃ u, us[i]? = some u ∧ RelV x u := Paired.get h e
theorem Vals.set {x : V} {u : Value} (r : RelV x u) {xs : List V} {us : List Value} (i : Nat) (h : Vals xs us) : Vals (xs.set i x) (us.set i u) := by
  induction h generalizing i with
  | nil => exact .nil
  | cons q t ih =>
    cases i with
    | zero => exact .cons r t
    | succ i => exact .cons q (ih i)
theorem Vals.append {xs ys : List V} {us ws : List Value} (h : Vals xs us) (s : Vals ys ws) : Vals (xs ++ ys) (us ++ ws) := by
  induction h with
  | nil => exact s
  | cons r _ ih => exact .cons r ih
noncomputable def RelO : Option V → Option Value → Prop
  | some v, some u => RelV v u
  | none, none => True
  | _, _ => False
noncomputable def KV {κ : Type} : List (κ × V) → List (κ × Value) → Prop := Paired fun (p : κ × V) (q : κ × Value) => p.1 = q.1 ∧ RelV p.2 q.2
noncomputable def kV : Key → V
  | .inl i => .int i
  | .inr x => .str x
inductive HO where
  | lst (xs : List V)
  | tup (xs : List V)
  | dK (kvs : List (Key × V)) | dT (kvs : List (List Key × V))
  | set (S : Int → Bool) (n : Nat)
  | ins (C dx : Addr) (fs : List (Str × V))
  | own (x : Addr)
  | xd (fs : List (Str × V))
  | met (f x : Addr)
  | rng (lo hi : Int)
  | frz (o : Obj) (u : HO)
  | tbl (ps : Array Value)
  | ext (φ : Heap → Prop)

noncomputable abbrev Hp := Addr → Option HO
noncomputable def upd (H : Hp) (a : Addr) (o : HO) : Hp := fun b => if b = a then some o else H b
theorem upd_same {H : Hp} {a : Addr} {o : HO} : upd H a o a = some o := by unfold upd; rw [if_pos rfl]
theorem upd_ne {H : Hp} {a b : Addr} {o : HO} (h : b ≠ a) : upd H a o b = H b := by unfold upd; rw [if_neg h]
theorem ne_of_none {H : Hp} {a b : Addr} {o : HO} (h : H a = some o) (h' : H b = none) : a ≠ b := by
  intro e; subst e; rw [h] at h'; cases h'

section
variable (P : Program) (w : World)
noncomputable def ObjOk (H : Hp) (h : Heap) (a : Addr) : HO → Prop
  | .lst xs => xs.length ≤ sizeLine ∧ ∃ (its : List Value) (n : Nat), Vals xs its ∧ h.get? a = some { cls := .type "list", data := .seq its.toArray n }
  | .tup xs => xs.length ≤ sizeLine ∧ ∃ its : List Value, Vals xs its ∧ IsTup h a its.toArray
  | .dK kvs => kvs.length ≤ sizeLine ∧ (a == sysModules) = false ∧ ∃ vs, KV kvs vs ∧ h.DictOf (mixKind P w) a vs
  | .dT kvs => kvs.length ≤ sizeLine ∧ (a == sysModules) = false ∧ ∃ xs : List (List Key × Addr × Value),
      Paired (fun (p : List Key × V) (q : List Key × Addr × Value) => p.1 = q.1 ∧ H q.2.1 = some (.tup (p.1.map kV)) ∧ RelV p.2 q.2.2) kvs xs ∧
      ∃ o es ep, h.get? a = some o ∧ o.ExactDict ∧ o.data = .dict es ep ∧ es.toList = xs.map (entryOfKey (tupleKind (mixKind P w))) ∧ (xs.map (·.1)).Nodup
  | .set S n => h.SetOf (intKind P w) a S n
  | .ins C dx fs => H dx = some (.own a) ∧ fs.length ≤ 1000 ∧ dx ≠ a ∧ h.get? a = some (PySem.W.instObj C dx) ∧
      ∃ mA, h.Ns1 dx mA ∧ (∀ f, RelO (fs.lookup f) (mA f)) ∧ PySem.Within mA (fs.map (·.1))
  | .own _ => ∃ o, h.get? a = some o
  | .xd fs => ∃ mA, h.Ns1 a mA ∧ ∀ f, RelO (fs.lookup f) (mA f)
  | .rng lo hi => ∃ t u v, h.get? a = some { cls := .type "range", data := .fields #[.int lo t, .int hi u, .int 1 v] }
  | .frz o u => h.get? a = some o ∧ ObjOk H h a u
  | .tbl ps => h.get? a = some { cls := .none, data := .fields ps }
  | .met f x => h.get? a = some (PySem.W.methodObj (.ref f) (.ref x))
  | .ext φ => φ h ∧ (∃ o, h.get? a = some o) ∧ ∀ h1 h2 : Heap, φ h1 → (∀ o, h1.get? a = some o → h2.get? a = some o) → φ h2
noncomputable def HOk (H : Hp) (h : Heap) : Prop := ∀ a o, H a = some o → ObjOk P w H h a o
end

section
variable {P : Program} {w : World} {H H' : Hp} {h h' : Heap} {a : Addr} {o : HO}
theorem ObjOk.lt (x : ObjOk P w H h a o) : a < h.objs.size := by
  cases o with
  | lst xs => obtain ⟨_, _, _, _, e⟩ := x; exact Heap.lt_size e
  | tup xs => obtain ⟨_, _, _, p⟩ := x; exact p.lt
  | dK kvs => obtain ⟨_, _, _, _, o, _, _, e, _⟩ := x; exact Heap.lt_size e
  | dT kvs => obtain ⟨_, _, _, _, o, _, _, e, _⟩ := x; exact Heap.lt_size e
  | set S n => obtain ⟨o, _, _, _, e, _⟩ := x; exact Heap.lt_size e
  | ins C dx fs => obtain ⟨_, _, _, e, _⟩ := x; exact Heap.lt_size e
  | own y => obtain ⟨_, e⟩ := x; exact Heap.lt_size e
  | xd fs => obtain ⟨_, ⟨_, _, _, e, _⟩, _⟩ := x; exact Heap.lt_size e
  | rng lo hi => obtain ⟨_, _, _, e⟩ := x; exact Heap.lt_size e
  | frz ob u => obtain ⟨e, _⟩ := x; exact Heap.lt_size e
  | tbl ps => exact Heap.lt_size (show h.get? a = some _ from x)
  | met f y => exact Heap.lt_size (show h.get? a = some _ from x)
  | ext φ => obtain ⟨_, ⟨_, e⟩, _⟩ := x; exact Heap.lt_size e
theorem Paired.mapP {α β : Type} {F G : α → β → Prop} {l₁ : List α} {l₂ : List β} (h : Paired F l₁ l₂) (f : ∀ a b, F a b → G a b) : Paired G l₁ l₂ := by
  induction h with
  | nil => exact .nil
  | cons r _ ih => exact .cons (f _ _ r) ih
theorem ObjOk.stay (x : ObjOk P w H h a o) (k : ∀ b u, (b = a ∨ H b = some (.own a)) → h.get? b = some u → h'.get? b = some u)
    (ho : ∀ b, H b = some (.own a) → H' b = some (.own a)) (ht : ∀ b xs, H b = some (.tup xs) → H' b = some (.tup xs)) : ObjOk P w H' h' a o := by
  induction o with
  | lst xs => obtain ⟨z, its, n, r, e⟩ := x; exact ⟨z, its, n, r, k _ _ (.inl rfl) e⟩
  | tup xs => obtain ⟨z, its, r, ob, e, c⟩ := x; exact ⟨z, its, r, ob, k _ _ (.inl rfl) e, c⟩
  | dK kvs => obtain ⟨z, y, vs, r, ob, es, ep, e, c⟩ := x; exact ⟨z, y, vs, r, ob, es, ep, k _ _ (.inl rfl) e, c⟩
  | dT kvs =>
    obtain ⟨z, y, xs, r, ob, es, ep, e, c⟩ := x
    exact ⟨z, y, xs, Paired.mapP r fun p q z => ⟨z.1, ht _ _ z.2.1, z.2.2⟩, ob, es, ep, k _ _ (.inl rfl) e, c⟩
  | set S n => obtain ⟨ob, es, ep, t, e, c⟩ := x; exact ⟨ob, es, ep, t, k _ _ (.inl rfl) e, c⟩
  | ins C dx fs =>
    obtain ⟨d, z, ne, e, mA, ⟨od, es, ep, e2, c⟩, r⟩ := x
    exact ⟨ho _ d, z, ne, k _ _ (.inl rfl) e, mA, ⟨od, es, ep, k _ _ (.inr d) e2, c⟩, r⟩
  | own y => obtain ⟨ob, e⟩ := x; exact ⟨ob, k _ _ (.inl rfl) e⟩
  | xd fs => obtain ⟨mA, ⟨od, es, ep, e, c⟩, r⟩ := x; exact ⟨mA, ⟨od, es, ep, k _ _ (.inl rfl) e, c⟩, r⟩
  | rng lo hi => obtain ⟨t, u, v, e⟩ := x; exact ⟨t, u, v, k _ _ (.inl rfl) e⟩
  | frz ob u ih => obtain ⟨e, q⟩ := x; exact ⟨k _ _ (.inl rfl) e, ih q⟩
  | tbl ps =>
    have e : h.get? a = some { cls := .none, data := .fields ps } := x
    show h'.get? a = some { cls := .none, data := .fields ps }
    exact k a _ (.inl rfl) e
  | met f y =>
    have e : h.get? a = some (PySem.W.methodObj (.ref f) (.ref y)) := x
    show h'.get? a = some (PySem.W.methodObj (.ref f) (.ref y))
    exact k a _ (.inl rfl) e
  | ext φ => obtain ⟨p, ⟨o, e⟩, st⟩ := x; exact ⟨st _ _ p fun o q => k _ _ (.inl rfl) q, ⟨o, k _ _ (.inl rfl) e⟩, st⟩
theorem HOk.lt (x : HOk P w H h) (e : H a = some o) : a < h.objs.size := (x a o e).lt
theorem HOk.fresh (x : HOk P w H h) (e : h.objs.size ≤ a) : H a = none := by
  cases q : H a with
  | none => rfl
  | some u => exact absurd (Nat.lt_of_lt_of_le (x.lt q) e) (Nat.lt_irrefl _)
theorem HOk.kept (x : HOk P w H h) (k : ∀ b u, h.get? b = some u → h'.get? b = some u) : HOk P w H h' := fun a o e =>
  (x a o e).stay (fun b u _ q => k b u q) (fun _ q => q) fun _ _ q => q
theorem HOk.laid (x : HOk P w H h) (k : ∀ b u, h.get? b = some u → h'.get? b = some u) (hp : h.objs.size ≤ a) (new : ObjOk P w (upd H a o) h' a o) : HOk P w (upd H a o) h' := fun b u e => by
  have hn := x.fresh hp
  by_cases hb : b = a
  · subst hb; rw [upd_same] at e; cases e; exact new
  · rw [upd_ne hb] at e
    exact (x b u e).stay (fun c v _ q => k c v q) (fun c q => by rw [upd_ne (ne_of_none q hn)]; exact q) fun c xs q => by rw [upd_ne (ne_of_none q hn)]; exact q
end
noncomputable def Rd (H : Hp) (a : Addr) (u : HO) : Prop := H a = some u ∨ ∃ o, H a = some (.frz o u)
theorem Rd.ok {P : Program} {w : World} {H : Hp} {h : Heap} {a : Addr} {u : HO} (r : Rd H a u) (x : HOk P w H h) : ObjOk P w H h a u := by
  rcases r with r | ⟨o, r⟩
  · exact x a u r
  · obtain ⟨_, q⟩ := x a _ r
    exact q
noncomputable def Mut : Option HO → Prop
  | some (.lst _) => True
  | some (.dK _) => True
  | some (.dT _) => True
  | some (.set _ _) => True
  | some (.ins _ _ _) => True
  | some (.ext _) => True
  | _ => False
section
variable {P : Program} {w : World} {H : Hp} {h h' : Heap} {x e : Addr} {o' : HO}
theorem HOk.write (ok : HOk P w H h) (mu : Mut (H x)) (he : e = x ∨ H e = some (.own x)) (k : ∀ b u, b ≠ e → h.get? b = some u → h'.get? b = some u) (heo : ∃ u, h'.get? e = some u)
    (new : ObjOk P w (upd H x o') h' x o') : HOk P w (upd H x o') h' := fun b u q => by
  have nown : ∀ c y, H c = some (.own y) → c ≠ x := fun c y r z => by subst z; rw [r] at mu; exact mu
  have ntup : ∀ c xs, H c = some (.tup xs) → c ≠ x := fun c xs r z => by subst z; rw [r] at mu; exact mu
  by_cases hb : b = x
  · subst hb; rw [upd_same] at q; cases q; exact new
  · rw [upd_ne hb] at q
    by_cases hbe : b = e
    · have q' : H b = some (.own x) := by
        rcases he with z | z
        · exact absurd (hbe.trans z) hb
        · rw [hbe]; exact z
      rw [q] at q'; cases q'
      obtain ⟨v, hv⟩ := heo
      exact ⟨v, by rw [hbe]; exact hv⟩
    · refine (ok b u q).stay (fun c v hc r => k c v ?_ r) (fun c r => by rw [upd_ne (nown c b r)]; exact r) fun c xs r => by rw [upd_ne (ntup c xs r)]; exact r
      rcases hc with rfl | hc
      · exact hbe
      · rintro rfl
        rcases he with z | z
        · exact nown c b hc z
        · rw [hc] at z; cases z; exact hb rfl
end

structure Un (fs ex : List Addr) (H H' : Hp) (h h' : Heap) : Prop where
  keep : ∀ b o, h.get? b = some o → H b = none → b ∉ fs → b ∉ ex → h'.get? b = some o
  slot : ∀ b o, h.get? b = some o → H b = none → b ∈ fs → b ∉ ex → ∃ sl, h'.get? b = some { o with slots := sl }
  free : ∀ b o, h.get? b = some o → H b = none → b ∉ ex → H' b = none
  there : ∀ b o, h.get? b = some o → b ∉ ex → ∃ o', h'.get? b = some o'
  tups : ∀ b xs, H b = some (.tup xs) → H' b = some (.tup xs)
  frzs : ∀ b o u, H b = some (.frz o u) → H' b = some (.frz o u)
  tbls : ∀ b ps, H b = some (.tbl ps) → ∃ more, H' b = some (.tbl (ps ++ more))
section
variable {fs fs' ex ex' : List Addr} {H H1 H2 : Hp} {h h1 h2 h' : Heap} {a x e : Addr} {o : HO}
theorem Un.any (u : Un fs ex H H1 h h1) {b : Addr} {ob : Obj} (q : h.get? b = some ob) (n : H b = none) (hx : b ∉ ex) : ∃ sl, h1.get? b = some { ob with slots := sl } := by
  by_cases hb : b ∈ fs
  · exact u.slot b ob q n hb hx
  · exact ⟨ob.slots, u.keep b ob q n hb hx⟩
theorem Un.kept (k : ∀ b u, h.get? b = some u → h'.get? b = some u) : Un fs ex H H h h' :=
  ⟨fun b ob q _ _ _ => k b ob q, fun b ob q _ _ _ => ⟨ob.slots, k b ob q⟩, fun _ _ _ n _ => n, fun b ob q _ => ⟨ob, k b ob q⟩, fun _ _ q => q, fun _ _ _ q => q, fun _ ps q => ⟨#[], by rw [q]; simp⟩⟩
theorem Un.refl : Un fs ex H H h h := Un.kept fun _ _ q => q
theorem Un.laid (k : ∀ b u, h.get? b = some u → h'.get? b = some u) (hp : h.objs.size ≤ a) (hn : H a = none) : Un fs ex H (upd H a o) h h' where
  keep := fun b u q _ _ _ => k b u q
  slot := fun b u q _ _ _ => ⟨u.slots, k b u q⟩
  free := fun b u q n _ => by rw [upd_ne (Nat.ne_of_lt (Nat.lt_of_lt_of_le (Heap.lt_size q) hp))]; exact n
  there := fun b u q _ => ⟨u, k b u q⟩
  tups := fun b xs q => by rw [upd_ne (ne_of_none q hn)]; exact q
  frzs := fun b u xs q => by rw [upd_ne (ne_of_none q hn)]; exact q
  tbls := fun b ps q => ⟨#[], by rw [upd_ne (ne_of_none q hn), q]; simp⟩
theorem Un.write (mu : Mut (H x)) (he : e = x ∨ H e = some (.own x)) (k : ∀ b u, b ≠ e → h.get? b = some u → h'.get? b = some u) (heo : ∃ u, h'.get? e = some u) : Un fs ex H (upd H x o) h h' := by
  have hx : ∀ b, H b = none → b ≠ x := fun b n z => by subst z; rw [n] at mu; exact mu
  have hb : ∀ b, H b = none → b ≠ e := fun b n z => by
    subst z
    rcases he with r | r
    · exact hx b n r
    · rw [n] at r; cases r
  have hm : ∀ b u, H b = some u → ¬ Mut (some u) → b ≠ x := fun b u q nm z => by subst z; rw [q] at mu; exact nm mu
  refine ⟨fun b u q n _ _ => k b u (hb b n) q, fun b u q n _ _ => ⟨u.slots, k b u (hb b n) q⟩, fun b u q n _ => by rw [upd_ne (hx b n)]; exact n, fun b u q _ => ?_,
    fun b xs q => by rw [upd_ne (hm b _ q fun z => z)]; exact q, fun b u xs q => by rw [upd_ne (hm b _ q fun z => z)]; exact q, fun b ps q => ⟨#[], by rw [upd_ne (hm b _ q fun z => z), q]; simp⟩⟩
  by_cases hbe : b = e
  · subst hbe; exact heo
  · exact ⟨u, k b u hbe q⟩
end

noncomputable def trk (h : Heap) (H : Hp) : List Addr := (List.range h.objs.size).filter fun a => (H a).isSome
noncomputable def hidT (h : Heap) (H : Hp) : Heap := PySem.W.hideAll h (trk h H)
theorem hidT_size (h : Heap) (H : Hp) : (hidT h H).objs.size = h.objs.size := PySem.W.hideAll_size _ _
theorem hidT_get {h : Heap} {H : Hp} {b : Addr} {o : Obj} (e : h.get? b = some o) (n : H b = none) : (hidT h H).get? b = some o :=
  PySem.W.hideAll_get _ e fun hm => by
    have q : (H b).isSome = true := (List.mem_filter.mp hm).2
    rw [n] at q; simp at q
theorem of_hidT {h : Heap} {H : Hp} {b : Addr} {o : Obj} (e : (hidT h H).get? b = some o) : h.get? b = some o ∧ H b = none := by
  have e' : h.get? b = some o := PySem.W.of_hideAll (trk h H) e
  refine ⟨e', ?_⟩
  cases q : H b with
  | none => rfl
  | some x =>
    have hm : b ∈ trk h H := List.mem_filter.mpr ⟨List.mem_range.mpr (Heap.lt_size e'), by simp [q]⟩
    have z : (hidT h H).get? b = none := PySem.W.hideAll_none (trk h H) hm
    rw [z] at e; cases e

end L2

namespace L2
open PySem PySem.Spec PyProof.Rows
structure Mod (K : PySem.W.Frag) (mg : Str → Option Value) (base : Heap) : Prop where
  kin : K.In base
  glob : base.Ns mainGlobals mg
  blt : ∃ mb, base.Ns builtinsNs mb ∧ ∀ x : Str, x ≠ "__name__" → mb x = bootBuiltins x
  nolimit : base.NoLimit
structure Cx where
  prog : Program
  w : World
  K : PySem.W.Frag
  mg : Str → Option Value
  base : Heap
  A : Around
  N : List Str
  s_0 : Shared
  H_0 : Hp
  env : Env
  outer : List Env
  stack : List Env
  ex : List Addr
  fn : Str → Bool
  calm : Bool
  pn : List (Addr × Obj)
  xe : Value → Shared → Prop
noncomputable def frs (l : List Env) : List Addr := l.filterMap (·.frame)
noncomputable abbrev Cx.fs (X : Cx) : List Addr := frs X.outer

noncomputable def Vis (sc : Scope) (x : Str) : Prop := sc.names.lookup x = some .local ∨ sc.names.lookup x = some .cell ∨ sc.names.lookup x = some .free
noncomputable def Loc (sc : Scope) (x : Str) : Prop := sc.names.lookup x = some .local ∨ sc.names.lookup x = some .cell
noncomputable def Look (env : Env) (h : Heap) (m : Str → Option Value) (x : Str) (u : Value) : Prop :=
  (env.kindOf x = some .local ∧ m x = some u) ∨ ((env.kindOf x = some .cell ∨ env.kindOf x = some .free) ∧ ∃ c, env.cells.lookup x = some c ∧ h.IsCell c (some u))

structure Cx.Ok (X : Cx) : Prop where
  mod : Mod X.K X.mg X.base
  kind : X.env.scope.kind = .function
  glob : X.env.globals = mainGlobals
  blt : X.env.builtins = builtinsNs
  above : X.s_0.heap.objs.size ≤ X.env.locals
  inj : ∀ x y c, X.env.cells.lookup x = some c → X.env.cells.lookup y = some c → x = y
  has : ∀ x, (X.env.kindOf x = some .cell ∨ X.env.kindOf x = some .free) → ∃ c, X.env.cells.lookup x = some c
  cab : ∀ x c, X.fn x = true → X.env.cells.lookup x = some c → X.s_0.heap.objs.size ≤ c
  hd : X.calm = true → X.A.handled = none
  frames : X.A.frames = some X.stack
  stk : X.stack = X.outer ∨ (X.stack = X.env :: X.outer ∧ X.env.frame = some X.env.locals)
  exf : ∀ b ∈ X.ex, b ≠ X.env.locals ∧ ∀ x c, X.env.cells.lookup x = some c → c ≠ b
  bs : ∀ b o, X.base.get? b = some o → X.s_0.heap.get? b = some o ∧ X.H_0 b = none
  bsz : X.base.objs.size ≤ X.s_0.heap.objs.size
  noex : ∀ b o, X.base.get? b = some o → b ∉ X.ex
  exfs : ∀ b ∈ X.ex, b ∉ X.fs
  funs : X.s_0.heap.FunFrames X.base X.outer
  frf : ∀ b ∈ X.fs, X.H_0 b = none

structure Inv (X : Cx) (pins : List (Addr × Obj)) (σ : List (Option V)) (H : Hp) (s : Shared) : Prop where
  ok : X.Ok
  os : s.os = X.s_0.os
  bare : AllBare s.gens
  base : Un X.fs X.ex X.H_0 H X.s_0.heap s.heap
  loc : ∃ m, s.heap.Ns X.env.locals m ∧ ∀ (i : Nat) (x : Str) (v : V), X.N[i]? = some x → σ[i]? = some (some v) → Vis X.env.scope x → ∃ u, RelV v u ∧ Look X.env s.heap m x u
  cell : ∀ x c, X.env.cells.lookup x = some c → ∃ v, s.heap.IsCell c v
  free : H X.env.locals = none
  freeC : ∀ x c, X.env.cells.lookup x = some c → H c = none
  pin : ∀ p ∈ X.pn ++ pins, s.heap.get? p.1 = some p.2 ∧ H p.1 = none ∧ p.1 ≠ X.env.locals ∧ p.1 ∉ X.fs ∧ ∀ v, p.2.data ≠ .cell v
  hok : HOk X.prog X.w H s.heap
  len : σ.length = X.N.length

section
variable {X : Cx} {pins : List (Addr × Obj)} {σ : List (Option V)} {H H' : Hp} {s : Shared} {h' : Heap}

theorem Cx.Ok.nofr (ok : X.Ok) {b : Addr} {o : Obj} (e : X.base.get? b = some o) : b ∉ X.fs := fun hb => by
  have := (ok.funs.mem hb).1
  rw [e] at this; cases this
theorem Inv.bs (I : Inv X pins σ H s) : ∀ b o, X.base.get? b = some o → s.heap.get? b = some o ∧ H b = none := fun b o e =>
  ⟨I.base.keep b o (I.ok.bs b o e).1 (I.ok.bs b o e).2 (I.ok.nofr e) (I.ok.noex b o e), I.base.free b o (I.ok.bs b o e).1 (I.ok.bs b o e).2 (I.ok.noex b o e)⟩
theorem Inv.bk (I : Inv X pins σ H s) : ∀ b o, X.base.get? b = some o → s.heap.get? b = some o := fun b o e => (I.bs b o e).1
theorem Inv.mod (I : Inv X pins σ H s) : Mod X.K X.mg X.base := I.ok.mod
theorem Inv.kIn (I : Inv X pins σ H s) : X.K.In s.heap := I.ok.mod.kin.keeps I.bk
theorem Inv.lt (I : Inv X pins σ H s) : X.env.locals < s.heap.objs.size := let ⟨_, hn, _⟩ := I.loc; hn.lt
theorem Inv.sz (I : Inv X pins σ H s) : X.s_0.heap.objs.size ≤ s.heap.objs.size := Nat.le_trans I.ok.above (Nat.le_of_lt I.lt)
theorem Inv.nofs (I : Inv X pins σ H s) {a : Addr} (h : s.heap.objs.size ≤ a) : a ∉ X.fs := fun hb => by
  obtain ⟨_, o, ho, _⟩ := I.ok.funs.mem hb
  exact absurd (Nat.lt_of_lt_of_le (Heap.lt_size ho) (Nat.le_trans I.sz h)) (Nat.lt_irrefl _)
theorem Inv.cne (I : Inv X pins σ H s) : ∀ x c, X.env.cells.lookup x = some c → c ≠ X.env.locals := fun x c e z => by
  obtain ⟨v, o, ho, hd⟩ := I.cell x c e
  obtain ⟨m, ⟨o', es, ep, ho', hd', _⟩, _⟩ := I.loc
  rw [z, ho'] at ho; cases ho; rw [hd'] at hd; cases hd
theorem Inv.funs (I : Inv X pins σ H s) : s.heap.FunFrames X.base X.outer := by
  have all : ∀ (l : List Env), (∀ b ∈ frs l, b ∈ X.fs) → X.s_0.heap.FunFrames X.base l → s.heap.FunFrames X.base l := by
    intro l
    induction l with
    | nil => intro _ _; trivial
    | cons env r ih =>
      intro hs hl
      obtain ⟨hk, ⟨L, o, hf, hn, ho, hd⟩, hr⟩ := hl
      have hL : L ∈ X.fs := hs L (by unfold frs; rw [List.filterMap_cons, hf]; exact List.mem_cons_self)
      obtain ⟨sl, e⟩ := I.base.slot L o ho (I.ok.frf L hL) hL fun z => I.ok.exfs L z hL
      exact ⟨hk, ⟨L, _, hf, hn, e, hd⟩, ih (fun b hb => hs b (by unfold frs; rw [List.filterMap_cons, hf]; exact List.mem_cons_of_mem _ hb)) hr⟩
  exact all X.outer (fun _ hb => hb) I.ok.funs
theorem Inv.stack (I : Inv X pins σ H s) : s.heap.FunFrames X.base X.stack := by
  rcases I.ok.stk with e | ⟨e, hf⟩
  · rw [e]; exact I.funs
  · rw [e]
    obtain ⟨m, hn, _⟩ := I.loc
    refine .cons (by rw [I.ok.kind]; decide) hf hn ?_ I.funs
    exact Heap.get?_none_of_le (Nat.le_trans I.ok.bsz I.ok.above)
theorem Inv.stkSub (I : Inv X pins σ H s) : ∀ b ∈ frs X.stack, b ∈ X.env.locals :: X.fs := fun b hb => by
  rcases I.ok.stk with e | ⟨e, hf⟩
  · rw [e] at hb; exact List.mem_cons_of_mem _ hb
  · rw [e] at hb
    unfold frs at hb
    rw [List.filterMap_cons, hf] at hb
    exact hb
theorem Inv.stkFree (I : Inv X pins σ H s) : ∀ b ∈ frs X.stack, H b = none := fun b hb => by
  rcases List.mem_cons.mp (I.stkSub b hb) with e | hb
  · rw [e]; exact I.free
  · obtain ⟨_, o, ho, _⟩ := I.ok.funs.mem hb
    exact I.base.free b o ho (I.ok.frf b hb) fun z => I.ok.exfs b z hb
theorem Inv.step {g' : Array GenState} {t' : Nat} {d' : Drawn} {ch : List Addr} (I : Inv X pins σ H s)
    (hch : ∀ b ∈ ch, (b ∈ X.ex ∨ X.s_0.heap.objs.size ≤ b) ∧ b ≠ X.env.locals ∧ (∀ x c, X.env.cells.lookup x = some c → c ≠ b) ∧ ∀ p ∈ X.pn ++ pins, p.1 ≠ b)
    (keep : ∀ b o, b ≠ X.env.locals → b ∉ X.fs → b ∉ ch → s.heap.get? b = some o → H b = none → h'.get? b = some o)
    (slot : ∀ b o, b ≠ X.env.locals → b ∈ X.fs → b ∉ ch → s.heap.get? b = some o → H b = none → ∃ sl, h'.get? b = some { o with slots := sl }) (free : ∀ b o, b ∉ ch → s.heap.get? b = some o → H b = none → H' b = none)
    (there : ∀ b o, b ∉ ch → s.heap.get? b = some o → ∃ o', h'.get? b = some o')
    (tups : ∀ b xs, H b = some (.tup xs) → H' b = some (.tup xs)) (frzs : ∀ b o u, H b = some (.frz o u) → H' b = some (.frz o u)) (tbls : ∀ b ps, H b = some (.tbl ps) → ∃ more, H' b = some (.tbl (ps ++ more)))
    (ns : ∀ m, s.heap.Ns X.env.locals m → h'.Ns X.env.locals m) (hok : HOk X.prog X.w H' h') (hg : AllBare g') :
    Inv X pins σ H' { s with heap := h', gens := g', drawn := d', toks := t' } := by
  have neL : ∀ b o, X.s_0.heap.get? b = some o → b ≠ X.env.locals := fun b o e => Nat.ne_of_lt (Nat.lt_of_lt_of_le (Heap.lt_size e) I.ok.above)
  have neC : ∀ b o, X.s_0.heap.get? b = some o → b ∉ X.ex → b ∉ ch := fun b o e hx hb => by
    rcases (hch b hb).1 with z | z
    · exact hx z
    · exact absurd (Nat.lt_of_lt_of_le (Heap.lt_size e) z) (Nat.lt_irrefl _)
  have cellK : ∀ x c, X.env.cells.lookup x = some c → ∀ v, s.heap.IsCell c v → h'.IsCell c v := fun x c e v ⟨o, ho, hd⟩ => by
    have nch : c ∉ ch := fun z => (hch c z).2.2.1 x c e rfl
    by_cases hc : c ∈ X.fs
    · obtain ⟨sl, q⟩ := slot c o (I.cne x c e) hc nch ho (I.freeC x c e)
      exact ⟨_, q, hd⟩
    · exact ⟨o, keep c o (I.cne x c e) hc nch ho (I.freeC x c e), hd⟩
  refine ⟨I.ok, I.os, hg, ⟨fun b o e n hb hx => ?_, fun b o e n hb hx => ?_, fun b o e n hx => ?_, fun b o e hx => ?_, fun b xs e => tups b xs (I.base.tups b xs e), fun b o xs e => frzs b o xs (I.base.frzs b o xs e), fun b ps e => ?_⟩, ?_, fun x c e => ?_, ?_, fun x c e => ?_, fun p hp => ?_, hok, I.len⟩
  · exact keep b o (neL b o e) hb (neC b o e hx) (I.base.keep b o e n hb hx) (I.base.free b o e n hx)
  · obtain ⟨sl, e1⟩ := I.base.slot b o e n hb hx
    obtain ⟨sl', e2⟩ := slot b _ (neL b o e) hb (neC b o e hx) e1 (I.base.free b o e n hx)
    exact ⟨sl', e2⟩
  · obtain ⟨o', e1⟩ := I.base.there b o e hx
    exact free b o' (neC b o e hx) e1 (I.base.free b o e n hx)
  · obtain ⟨o', e1⟩ := I.base.there b o e hx
    exact there b o' (neC b o e hx) e1
  · obtain ⟨m1, e1⟩ := I.base.tbls b ps e
    obtain ⟨m2, e2⟩ := tbls b _ e1
    exact ⟨m1 ++ m2, by rw [e2, Array.append_assoc]⟩
  · obtain ⟨m, hn, hl⟩ := I.loc
    refine ⟨m, ns m hn, fun i x v e1 e2 e3 => ?_⟩
    obtain ⟨u, r, l⟩ := hl i x v e1 e2 e3
    refine ⟨u, r, ?_⟩
    rcases l with l | ⟨k, c, e, z⟩
    · exact .inl l
    · exact .inr ⟨k, c, e, cellK x c e _ z⟩
  · obtain ⟨v, z⟩ := I.cell x c e
    exact ⟨v, cellK x c e v z⟩
  · obtain ⟨m, ⟨o, _, _, ho, _⟩, _⟩ := I.loc
    exact free _ o (fun z => (hch _ z).2.1 rfl) ho I.free
  · obtain ⟨v, o, ho, hd⟩ := I.cell x c e
    exact free c o (fun z => (hch c z).2.2.1 x c e rfl) ho (I.freeC x c e)
  · obtain ⟨e, n, ne, nf, d⟩ := I.pin p hp
    have nch : p.1 ∉ ch := fun z => (hch p.1 z).2.2.2 p hp rfl
    exact ⟨keep p.1 p.2 ne nf nch e n, free p.1 p.2 nch e n, ne, nf, d⟩
theorem Inv.un {t' : Nat} (I : Inv X pins σ H s) (u : Un X.fs [] H H' s.heap h') (hok : HOk X.prog X.w H' h') : Inv X pins σ H' { s with heap := h', toks := t' } := by
  obtain ⟨m, ⟨o, es, ep, ho, r⟩, _⟩ := id I.loc
  obtain ⟨sl, hL⟩ := u.any ho I.free (by simp)
  exact I.step (g' := s.gens) (d' := s.drawn) (ch := []) (fun _ z => nomatch z) (fun b o _ hb _ e n => u.keep b o e n hb (by simp)) (fun b o _ hb _ e n => u.slot b o e n hb (by simp)) (fun b o _ e n => u.free b o e n (by simp)) (fun b o _ e => u.there b o e (by simp)) u.tups u.frzs u.tbls (fun m' hm => by
    obtain ⟨o', es', ep', ho', r'⟩ := hm
    rw [ho] at ho'; cases ho'
    exact ⟨_, es', ep', hL, r'⟩) hok I.bare
theorem Inv.call {g' : Array GenState} {t' : Nat} {d' : Drawn} {ch : List Addr} (I : Inv X pins σ H s) (u : Un (frs X.stack) ch H H' s.heap h') (hok : HOk X.prog X.w H' h') (hg : AllBare g')
    (hch : ∀ b ∈ ch, (b ∈ X.ex ∨ X.s_0.heap.objs.size ≤ b) ∧ b ≠ X.env.locals ∧ (∀ x c, X.env.cells.lookup x = some c → c ≠ b) ∧ ∀ p ∈ X.pn ++ pins, p.1 ≠ b) :
    Inv X pins σ H' { s with heap := h', gens := g', drawn := d', toks := t' } := by
  obtain ⟨m, ⟨o, es, ep, ho, r⟩, _⟩ := id I.loc
  obtain ⟨sl, hL⟩ := u.any ho I.free fun z => (hch _ z).2.1 rfl
  exact I.step (ch := ch) hch (fun b o hL hb hc e n => u.keep b o e n (fun z => (List.mem_cons.mp (I.stkSub b z)).elim hL hb) hc) (fun b o _ _ hc e n => u.any e n hc) (fun b o hc e n => u.free b o e n hc) (fun b o hc e => u.there b o e hc) u.tups u.frzs u.tbls (fun m' hm => by
    obtain ⟨o', es', ep', ho', r'⟩ := hm
    rw [ho] at ho'; cases ho'
    exact ⟨_, es', ep', hL, r'⟩) hok hg
theorem Inv.turned {t' : Nat} {it : Addr} (I : Inv X pins σ H s) (k : ∀ b o, b ≠ it → s.heap.get? b = some o → h'.get? b = some o) (hn : H it = none) (hL : it ≠ X.env.locals)
    (h1 : it ∈ X.ex ∨ X.s_0.heap.objs.size ≤ it) (h2 : ∀ x c, X.env.cells.lookup x = some c → c ≠ it) (h3 : ∀ p ∈ X.pn ++ pins, p.1 ≠ it) : Inv X pins σ H { s with heap := h', toks := t' } := by
  have nit : ∀ b u, H b = some u → b ≠ it := fun b u e z => by rw [z, hn] at e; cases e
  refine I.step (g' := s.gens) (d' := s.drawn) (ch := [it]) (fun b hb => ?_) (fun b o _ _ hc e _ => k b o (fun z => hc (by simp [z])) e) (fun b o _ _ hc e _ => ⟨o.slots, k b o (fun z => hc (by simp [z])) e⟩) (fun _ _ _ _ n => n)
    (fun b o hc e => ⟨o, k b o (fun z => hc (by simp [z])) e⟩) (fun _ _ e => e) (fun _ _ _ e => e) (fun b ps e => ⟨#[], by rw [e]; simp⟩) (fun m hm => ?_) (fun b u e => ?_) I.bare
  · have e : b = it := by simpa using hb
    subst e
    exact ⟨h1, hL, h2, h3⟩
  · obtain ⟨o, es, ep, ho, r⟩ := hm
    exact ⟨o, es, ep, k _ o (Ne.symm hL) ho, r⟩
  · refine (I.hok b u e).stay (fun c v hc q => k c v ?_ q) (fun _ q => q) fun _ _ q => q
    rcases hc with z | z
    · rw [z]; exact nit b u e
    · exact nit c _ z
theorem Inv.tok (I : Inv X pins σ H s) (t : Nat) : Inv X pins σ H { s with toks := t } := I.un (h' := s.heap) (t' := t) Un.refl I.hok
theorem Inv.kept {t' : Nat} (I : Inv X pins σ H s) (k : ∀ b u, s.heap.get? b = some u → h'.get? b = some u) : Inv X pins σ H { s with heap := h', toks := t' } := I.un (Un.kept k) (I.hok.kept k)
theorem Inv.laid {a : Addr} {o : HO} {t' : Nat} (I : Inv X pins σ H s) (k : ∀ b u, s.heap.get? b = some u → h'.get? b = some u) (hp : s.heap.objs.size ≤ a) (new : ObjOk X.prog X.w (upd H a o) h' a o) :
    Inv X pins σ (upd H a o) { s with heap := h', toks := t' } := I.un (Un.laid k hp (I.hok.fresh hp)) (I.hok.laid k hp new)
theorem Inv.write {x e : Addr} {o : HO} {t' : Nat} (I : Inv X pins σ H s) (mu : Mut (H x)) (he : e = x ∨ H e = some (.own x)) (k : ∀ b u, b ≠ e → s.heap.get? b = some u → h'.get? b = some u) (heo : ∃ u, h'.get? e = some u)
    (new : ObjOk X.prog X.w (upd H x o) h' x o) : Inv X pins σ (upd H x o) { s with heap := h', toks := t' } := I.un (Un.write mu he k heo) (I.hok.write mu he k heo new)
theorem Inv.weak {σ' : List (Option V)} (I : Inv X pins σ H s) (hl : σ'.length = σ.length) (w : ∀ (i : Nat) v, σ'[i]? = some (some v) → σ[i]? = some (some v)) : Inv X pins σ' H s :=
  ⟨I.ok, I.os, I.bare, I.base, let ⟨m, hn, hl'⟩ := I.loc; ⟨m, hn, fun i x v e1 e2 e3 => hl' i x v e1 (w i v e2) e3⟩, I.cell, I.free, I.freeC, I.pin, I.hok, hl.trans I.len⟩
theorem Inv.pins_of {pins' : List (Addr × Obj)} (I : Inv X pins σ H s) (h : ∀ p ∈ pins', s.heap.get? p.1 = some p.2 ∧ H p.1 = none ∧ p.1 ≠ X.env.locals ∧ p.1 ∉ X.fs ∧ ∀ v, p.2.data ≠ .cell v) : Inv X pins' σ H s :=
  ⟨I.ok, I.os, I.bare, I.base, I.loc, I.cell, I.free, I.freeC, fun p hp => (List.mem_append.mp hp).elim (fun z => I.pin p (List.mem_append_left _ z)) (h p), I.hok, I.len⟩

theorem nodup_ix {N : List Str} (hN : N.Nodup) {i j : Nat} {x : Str} (a : N[i]? = some x) (b : N[j]? = some x) : i = j := by
  obtain ⟨h1, e1⟩ := List.getElem?_eq_some_iff.mp a
  obtain ⟨h2, e2⟩ := List.getElem?_eq_some_iff.mp b
  exact (List.getElem_inj hN).mp (e1.trans e2.symm)
theorem store_ok2 {M : Model} {A : Around} {E : Value → Shared → Prop} {i : Nat} {x : Str} {v : V} {u : Value} {Q : Unit → Shared → Prop} (I : Inv X pins σ H s) (hN : X.N.Nodup) (hi : X.N[i]? = some x) (hx : Loc X.env.scope x) (r : RelV v u)
    (h : ∀ s', Inv X pins (σ.set i (some v)) H s' → (∃ a, Heap.SameBut a s.heap s'.heap ∧ (a = X.env.locals ∨ X.env.cells.lookup x = some a)) → Q () s') (hf : X.fn x = true ∨ X.env.scope.names.lookup x = some .local) : wpAny M A (storeName X.env x u) Q E s := by
  obtain ⟨m, hn, hl⟩ := id I.loc
  have hcls : (X.env.scope.kind == .class || (X.env.scope.kind == .module && X.env.locals != X.env.globals)) = false := by rw [I.ok.kind]; rfl
  have hiσ : i < σ.length := by rw [I.len]; exact (List.getElem?_eq_some_iff.mp hi).1
  have cne := I.cne
  have tracked : ∀ {a : Addr} {h' : Heap}, (∃ o, s.heap.get? a = some o ∧ H a = none) → Heap.SameBut a s.heap h' → HOk X.prog X.w H h' := fun {a h'} ha hs b ob e => by
    obtain ⟨_, _, hfree⟩ := ha
    refine (I.hok b ob e).stay (fun c w' hc q => (hs.2 c ?_).trans q) (fun _ q => q) fun _ _ q => q
    rintro rfl
    rcases hc with rfl | hc
    · rw [hfree] at e; cases e
    · rw [hfree] at hc; cases hc
  rcases hx with hk | hk
  · refine wpAny_storeName_local hk hn (fun h' hn' hs => ?_) hcls
    obtain ⟨oL, _, _, hoL, _⟩ := id hn
    refine h _ ⟨I.ok, I.os, I.bare, ⟨fun b o e n hb hx => ?_, fun b o e n hb hx => ?_, I.base.free, fun b o e hx => ?_, I.base.tups, I.base.frzs, I.base.tbls⟩, ⟨_, hn', fun j y v' e1 e2 e3 => ?_⟩, fun y c e => ?_, I.free, I.freeC, fun p hp => ?_, tracked ⟨oL, hoL, I.free⟩ hs, by simpa using I.len⟩ ⟨_, hs, .inl rfl⟩
    · exact (hs.2 b (Nat.ne_of_lt (Nat.lt_of_lt_of_le (Heap.lt_size e) I.ok.above))).trans (I.base.keep b o e n hb hx)
    · obtain ⟨sl, e1⟩ := I.base.slot b o e n hb hx
      exact ⟨sl, (hs.2 b (Nat.ne_of_lt (Nat.lt_of_lt_of_le (Heap.lt_size e) I.ok.above))).trans e1⟩
    · obtain ⟨o', e1⟩ := I.base.there b o e hx
      exact ⟨o', (hs.2 b (Nat.ne_of_lt (Nat.lt_of_lt_of_le (Heap.lt_size e) I.ok.above))).trans e1⟩
    · by_cases hj : j = i
      · subst hj
        rw [hi] at e1; cases e1
        rw [List.getElem?_set_self hiσ] at e2
        cases e2
        exact ⟨u, r, .inl ⟨hk, by simp⟩⟩
      · rw [List.getElem?_set_ne (Ne.symm hj)] at e2
        obtain ⟨u', r', q⟩ := hl j y v' e1 e2 e3
        refine ⟨u', r', ?_⟩
        rcases q with ⟨k, e⟩ | ⟨k, c, e, z⟩
        · refine .inl ⟨k, ?_⟩
          have : y ≠ x := fun e => hj (nodup_ix hN e1 (e ▸ hi))
          simp [this, e]
        · exact .inr ⟨k, c, e, z.sameBut hs (cne y c e)⟩
    · obtain ⟨w', z⟩ := I.cell y c e
      exact ⟨w', z.sameBut hs (cne y c e)⟩
    · obtain ⟨e, n, ne, nf, d⟩ := I.pin p hp
      exact ⟨(hs.2 p.1 ne).trans e, n, ne, nf, d⟩
  · have hfn : X.fn x = true := by
      rcases hf with z | z
      · exact z
      · rw [z] at hk; cases hk
    obtain ⟨c, hc⟩ := I.ok.has x (.inl hk)
    obtain ⟨w', z⟩ := I.cell x c hc
    refine wpAny_storeName_cell I.ok.kind hk hc z (fun h' hc' hs => ?_)
    obtain ⟨oc, hoc, hocd⟩ := id z
    refine h { s with heap := h' } ⟨I.ok, I.os, I.bare, ⟨fun b o e n hb hx => ?_, fun b o e n hb hx => ?_, I.base.free, fun b o e hx => ?_, I.base.tups, I.base.frzs, I.base.tbls⟩, ⟨m, hn.sameBut hs (Ne.symm (cne x c hc)), fun j y v' e1 e2 e3 => ?_⟩, fun y c' e => ?_, I.free, I.freeC, fun p hp => ?_, tracked ⟨oc, hoc, I.freeC x c hc⟩ hs, by simpa using I.len⟩ ⟨c, hs, .inr hc⟩
    · exact (hs.2 b (Nat.ne_of_lt (Nat.lt_of_lt_of_le (Heap.lt_size e) (I.ok.cab x c hfn hc)))).trans (I.base.keep b o e n hb hx)
    · obtain ⟨sl, e1⟩ := I.base.slot b o e n hb hx
      exact ⟨sl, (hs.2 b (Nat.ne_of_lt (Nat.lt_of_lt_of_le (Heap.lt_size e) (I.ok.cab x c hfn hc)))).trans e1⟩
    · obtain ⟨o', e1⟩ := I.base.there b o e hx
      exact ⟨o', (hs.2 b (Nat.ne_of_lt (Nat.lt_of_lt_of_le (Heap.lt_size e) (I.ok.cab x c hfn hc)))).trans e1⟩
    · by_cases hj : j = i
      · subst hj
        rw [hi] at e1; cases e1
        rw [List.getElem?_set_self hiσ] at e2
        cases e2
        exact ⟨u, r, .inr ⟨.inl hk, c, hc, hc'⟩⟩
      · rw [List.getElem?_set_ne (Ne.symm hj)] at e2
        obtain ⟨u', r', q⟩ := hl j y v' e1 e2 e3
        refine ⟨u', r', ?_⟩
        rcases q with q | ⟨k, c', e, z'⟩
        · exact .inl q
        · refine .inr ⟨k, c', e, z'.sameBut hs ?_⟩
          rintro rfl
          exact hj (nodup_ix hN e1 (I.ok.inj _ _ _ e hc ▸ hi))
    · by_cases hcc : c' = c
      · subst hcc; exact ⟨_, hc'⟩
      · obtain ⟨w2, z2⟩ := I.cell y c' e
        exact ⟨w2, z2.sameBut hs hcc⟩
    · obtain ⟨e, n, ne, nf, d⟩ := I.pin p hp
      refine ⟨(hs.2 p.1 ?_).trans e, n, ne, nf, d⟩
      intro q
      rw [q, hoc] at e
      have q' : oc = p.2 := Option.some.inj e
      exact d w' (by rw [← q']; exact hocd)
theorem store_ok {M : Model} {A : Around} {E : Value → Shared → Prop} {i : Nat} {x : Str} {v : V} {u : Value} {Q : Unit → Shared → Prop} (I : Inv X pins σ H s) (hN : X.N.Nodup) (hi : X.N[i]? = some x) (hx : Loc X.env.scope x) (r : RelV v u)
    (h : ∀ s', Inv X pins (σ.set i (some v)) H s' → Q () s') (hf : X.fn x = true ∨ X.env.scope.names.lookup x = some .local) : wpAny M A (storeName X.env x u) Q E s :=
  store_ok2 I hN hi hx r (fun s' I' _ => h s' I') hf
theorem Inv.call' {s' : Shared} {ch : List Addr} (I : Inv X pins σ H s) (ho : s'.os = s.os) (u : Un (frs X.stack) ch H H' s.heap s'.heap) (hok : HOk X.prog X.w H' s'.heap) (hg : AllBare s'.gens)
    (hch : ∀ b ∈ ch, (b ∈ X.ex ∨ X.s_0.heap.objs.size ≤ b) ∧ b ≠ X.env.locals ∧ (∀ x c, X.env.cells.lookup x = some c → c ≠ b) ∧ ∀ p ∈ X.pn ++ pins, p.1 ≠ b) : Inv X pins σ H' s' := by
  obtain ⟨h', g', d', t', o'⟩ := s'
  have e : o' = s.os := ho
  subst e
  exact I.call (g' := g') (t' := t') (d' := d') u hok hg hch
end
noncomputable abbrev XK := Value → Option Addr → Hp → Prop
noncomputable abbrev St := List (Option V)
noncomputable abbrev VK := V → Hp → Prop
noncomputable abbrev TE := St → Hp → VK → Prop
noncomputable abbrev TT := St → Hp → (Bool → Hp → Prop) → Prop
noncomputable abbrev TA := St → Hp → (List V → Hp → Prop) → Prop
structure Ends where
  nx : St → Hp → Prop
  rt : VK
  bk : St → Hp → Prop := fun _ _ => False
  ct : St → Hp → Prop := fun _ _ => False
noncomputable abbrev TS := Ends → St → Hp → Prop

noncomputable def EP (X : Cx) (pins : List (Addr × Obj)) (σ : St) (Q : VK) (u : Value) (s' : Shared) : Prop := ∃ v H', Inv X pins σ H' s' ∧ RelV v u ∧ Q v H'
noncomputable def TP (X : Cx) (pins : List (Addr × Obj)) (σ : St) (Q : Bool → Hp → Prop) (b : Bool) (s' : Shared) : Prop := ∃ H', Inv X pins σ H' s' ∧ Q b H'
noncomputable def AP (X : Cx) (pins : List (Addr × Obj)) (σ : St) (Q : List V → Hp → Prop) (us : List Value) (s' : Shared) : Prop := ∃ vs H', Inv X pins σ H' s' ∧ Vals vs us ∧ Q vs H'
noncomputable def SP (X : Cx) (pins : List (Addr × Obj)) (D : Ends) (f : Flow) (s' : Shared) : Prop :=
  match f with
  | .next => ∃ σ' H', Inv X pins σ' H' s' ∧ D.nx σ' H'
  | .brk => ∃ σ' H', Inv X pins σ' H' s' ∧ D.bk σ' H'
  | .cont => ∃ σ' H', Inv X pins σ' H' s' ∧ D.ct σ' H'
  | .ret u => ∃ v σ' H', Inv X pins σ' H' s' ∧ RelV v u ∧ D.rt v H'

noncomputable def PE (X : Cx) (e : Expr) (t : TE) : Prop :=
  ∀ (pins : List (Addr × Obj)) (s : Shared) (σ : St) (H : Hp) (Q : VK), Inv X pins σ H s → t σ H Q → wpAny (model X.prog X.w) X.A (eval e X.env) (EP X pins σ Q) X.xe s
noncomputable def PT (X : Cx) (e : Expr) (t : TT) : Prop :=
  ∀ (pins : List (Addr × Obj)) (s : Shared) (σ : St) (H : Hp) (Q : Bool → Hp → Prop), Inv X pins σ H s → t σ H Q → wpAny (model X.prog X.w) X.A (isTrue e X.env (eval e X.env)) (TP X pins σ Q) X.xe s
noncomputable def PW (X : Cx) (e : Expr) (t : TT) : Prop :=
  ∀ (whole : Sem Value) (pins : List (Addr × Obj)) (s : Shared) (σ : St) (H : Hp) (Q : Bool → Hp → Prop), Inv X pins σ H s → t σ H Q → wpAny (model X.prog X.w) X.A (isTrue e X.env whole) (TP X pins σ Q) X.xe s
theorem PW.pt {X : Cx} {e : Expr} {t : TT} (h : PW X e t) : PT X e t := h _
noncomputable def PA (X : Cx) (es : List Expr) (t : TA) : Prop :=
  ∀ (pos : Pos) (pins : List (Addr × Obj)) (s : Shared) (σ : St) (H : Hp) (Q : List V → Hp → Prop), Inv X pins σ H s → t σ H Q → wpAny (model X.prog X.w) X.A (spliced (backTo pos (starEach es X.env))) (AP X pins σ Q) X.xe s
noncomputable def PS (X : Cx) (st : Stmt) (t : TS) : Prop :=
  ∀ (pins : List (Addr × Obj)) (s : Shared) (σ : St) (H : Hp) (D : Ends), Inv X pins σ H s → t D σ H → wpAny (model X.prog X.w) X.A (exec st X.env) (SP X pins D) X.xe s
noncomputable def PSs (X : Cx) (st : List Stmt) (t : TS) : Prop :=
  ∀ (pins : List (Addr × Obj)) (s : Shared) (σ : St) (H : Hp) (D : Ends), Inv X pins σ H s → t D σ H → wpAny (model X.prog X.w) X.A (execs st X.env) (SP X pins D) X.xe s
theorem thn {α : Type} {t : Sem α} {Q Q' : α → Shared → Prop} {M : Model} {A : Around} {E : Value → Shared → Prop} {s : Shared} (h : wpAny M A t Q E s) (hQ : ∀ a s, Q a s → Q' a s) : wpAny M A t Q' E s := wpAny_mono h hQ fun _ _ x => x
end L2

namespace L2
open PySem PySem.Spec PyProof.Rows
section
variable {X : Cx}

noncomputable def tVar (i : Nat) : TE := fun σ H Q => ∃ v, σ[i]? = some (some v) ∧ Q v H
noncomputable def tC (v : V) : TE := fun _ H Q => Q v H
theorem pe_var {i : Nat} {x : Str} {pos : Pos} (hN : X.N[i]? = some x) (hv : Vis X.env.scope x) (hd : (x == ("__debug__" : Str)) = false) (hcd : (x == ("__classdict__" : Str)) = false) : PE X (.Name x pos) (tVar i) := by
  intro pins s σ H Q I h
  obtain ⟨v, e, h⟩ := h
  obtain ⟨m, hn, hl⟩ := I.loc
  obtain ⟨u, r, l⟩ := hl i x v hN e hv
  have fin : EP X pins σ Q u s := ⟨v, H, I, r, h⟩
  rcases l with ⟨hk, hm⟩ | ⟨hk, c, hc, hcell⟩
  · exact wpAny_Name (wpAny_loadName_local I.ok.kind hk hn hm fin) hd
  · rcases hk with hk | hk
    · exact wpAny_Name (wpAny_loadName_cell I.ok.kind hk hc hcell fin) hd
    · exact wpAny_Name (wpAny_loadName_free I.ok.kind hk hc hcell fin hcd) hd
theorem pe_int {i j pos} : PE X (.Constant (.int i) j pos) (tC (.int i)) := fun _ _ _ H _ I h => wpAny_Constant_int ⟨.int i, H, I.tok _, ⟨_, rfl⟩, h⟩
theorem pe_non {j pos} : PE X (.Constant .none j pos) (tC .non) := fun _ _ _ H _ I h => Constant_none ⟨.non, H, I, rfl, h⟩
theorem pe_str {x j pos} : PE X (.Constant (.str x) j pos) (tC (.str x)) := fun _ _ _ H _ I h => Calls.Constant_str ⟨.str x, H, I.tok _, ⟨_, rfl⟩, h⟩
noncomputable def Gl (X : Cx) (x : Str) : Prop := X.env.kindOf x = some .globalImplicit
theorem ld_glob {E : Value → Shared → Prop} {pins : List (Addr × Obj)} {s : Shared} {σ : St} {H : Hp} {x : Str} {u : Value} {pos : Pos} {Q : Value → Shared → Prop} (I : Inv X pins σ H s) (hg : Gl X x) (hm : X.mg x = some u) (h : Q u s)
    (hd : (x == ("__debug__" : Str)) = false) : wpAny (model X.prog X.w) X.A (eval (.Name x pos) X.env) Q E s :=
  Calls.Name_function_global I.ok.kind hg (Calls.loadGlobal_global (by rw [I.ok.glob]; exact I.mod.glob.keeps I.bk) hm h) hd
theorem ld_blt {E : Value → Shared → Prop} {pins : List (Addr × Obj)} {s : Shared} {σ : St} {H : Hp} {x : Str} {u : Value} {pos : Pos} {Q : Value → Shared → Prop} (I : Inv X pins σ H s) (hg : Gl X x) (hm : X.mg x = none) (hv : bootBuiltins x = some u) (h : Q u s)
    (hn : x ≠ "__name__") (hd : (x == ("__debug__" : Str)) = false) : wpAny (model X.prog X.w) X.A (eval (.Name x pos) X.env) Q E s := by
  obtain ⟨mb, h1, h2⟩ := I.mod.blt
  exact Calls.Name_function_global I.ok.kind hg (Calls.loadGlobal_builtin (by rw [I.ok.glob]; exact I.mod.glob.keeps I.bk) hm (by rw [I.ok.blt]; exact h1.keeps I.bk) ((h2 x hn).trans hv) h) hd
theorem pe_glob {x : Str} {v : V} {u : Value} {pos : Pos} (hg : Gl X x) (hm : X.mg x = some u) (r : RelV v u) (hd : (x == ("__debug__" : Str)) = false) : PE X (.Name x pos) (tC v) :=
  fun _ _ _ H _ I h => ld_glob I hg hm ⟨v, H, I, r, h⟩ hd
variable {a b : Expr} {ta tb : TE} {pos : Pos}
noncomputable def PC (X : Cx) (op : CmpOp) (a b : Expr) (t : TE) : Prop :=
  ∀ (pins : List (Addr × Obj)) (s : Shared) (σ : St) (H : Hp) (Q : VK), Inv X pins σ H s → t σ H Q →
    wpAny (model X.prog X.w) X.A (eval a X.env) (fun v s₁ => wpAny (model X.prog X.w) X.A (eval b X.env) (fun u s₂ => wpAny (model X.prog X.w) X.A (compareOp op v u) (EP X pins σ Q) X.xe s₂) X.xe s₁) X.xe s
noncomputable def tIsN (ta : TE) : TE := fun σ H Q => ta σ H fun x H1 => Q (.bl (decide (x = .non))) H1
theorem RelV.none_iff {x : V} {v : Value} (r : RelV x v) : (v == Value.none) = decide (x = .non) := by
  cases x with
  | non => cases r; exact (decide_eq_true rfl).symm
  | bl _ => cases r; exact (decide_eq_false (fun z => by cases z)).symm
  | int _ => obtain ⟨t, rfl⟩ := r; exact (decide_eq_false (fun z => by cases z)).symm
  | str _ => obtain ⟨t, rfl⟩ := r; exact (decide_eq_false (fun z => by cases z)).symm
  | byt _ => obtain ⟨t, rfl⟩ := r; exact (decide_eq_false (fun z => by cases z)).symm
  | flt _ => obtain ⟨t, rfl⟩ := r; exact (decide_eq_false (fun z => by cases z)).symm
  | ref _ => cases r; exact (decide_eq_false (fun z => by cases z)).symm
  | ty _ => cases r; exact (decide_eq_false (fun z => by cases z)).symm
theorem pc_isN {j pos'} (ha : PE X a ta) : PC X .Is a (.Constant .none j pos') (tIsN ta) := by
  intro pins s σ H Q I h
  refine thn (ha pins s σ H _ I h) fun v s1 hzz => ?_
  obtain ⟨x, H1, I1, r1, q1⟩ := hzz
  exact Constant_none (is_none_gen ⟨.bl _, H1, I1, by rw [r1.none_iff]; rfl, q1⟩)
noncomputable def tB (t : TE) : TT := fun σ H Q => t σ H fun x H1 => ∃ c, x = .bl c ∧ Q c H1
theorem pt_cmp {op : CmpOp} {t : TE} (h : PC X op a b t) (h1 : behindInMarks op b = false) : PT X (.Compare a [op] [b] pos) (tB t) := by
  intro pins s σ H Q I hw
  refine wpAny_isTrue_Compare1 (thn (h pins s σ H _ I hw) fun v s1 h1 => thn h1 fun u s2 h2 => thn h2 fun c s3 hzz => ?_) h1
  obtain ⟨x, H1, I1, r1, q1⟩ := hzz
  obtain ⟨d, rfl, q⟩ := q1
  cases r1
  exact wpAny_truthy_bool ⟨H1, I1, q⟩
theorem pt_val {e : Expr} {t : TE} (h : PE X e t) (he : ∀ whole, isTrue e X.env whole = (do let v ← whole; standAt e.pos; holding [v] (truthy v))) : PT X e (tB t) := by
  intro pins s σ H Q I hw
  refine isTrue_plain (thn (h pins s σ H _ I hw) fun v s1 hzz => ?_) (he _)
  obtain ⟨x, H1, I1, r1, q1⟩ := hzz
  obtain ⟨d, rfl, q⟩ := q1
  cases r1
  exact wpAny_truthy_bool ⟨H1, I1, q⟩

variable {tA tB' : TT} {rest : List Expr}
noncomputable def tAnd (t u : TT) : TT := fun σ H Q => t σ H fun c H1 => if c = true then u σ H1 Q else Q false H1
noncomputable def tOr (t u : TT) : TT := fun σ H Q => t σ H fun c H1 => if c = true then Q true H1 else u σ H1 Q
noncomputable def tNot (t : TT) : TT := fun σ H Q => t σ H fun c H1 => Q (!c) H1
theorem pw_and1 (ha : PT X a tA) : PW X (.BoolOp .And [a] pos) tA := by
  intro wh pins s σ H Q I h
  refine isTrue_and (thn (ha pins s σ H Q I h) fun c s1 e => ?_)
  cases c with
  | true => exact isTrue_and_nil e
  | false => exact e
theorem pw_or1 (ha : PT X a tA) : PW X (.BoolOp .Or [a] pos) tA := by
  intro wh pins s σ H Q I h
  refine isTrue_or (thn (ha pins s σ H Q I h) fun c s1 e => ?_)
  cases c with
  | false => exact isTrue_or_nil e
  | true => exact e
theorem pw_and (ha : PT X a tA) (hb : PW X (.BoolOp .And (b :: rest) pos) tB') : PW X (.BoolOp .And (a :: b :: rest) pos) (tAnd tA tB') := by
  intro wh pins s σ H Q I h
  refine isTrue_and (thn (ha pins s σ H _ I h) fun c s1 hzz => ?_)
  obtain ⟨H1, I1, q1⟩ := hzz
  cases c with
  | true => exact hb wh pins s1 σ H1 Q I1 q1
  | false => exact ⟨H1, I1, q1⟩
theorem pw_or (ha : PT X a tA) (hb : PW X (.BoolOp .Or (b :: rest) pos) tB') : PW X (.BoolOp .Or (a :: b :: rest) pos) (tOr tA tB') := by
  intro wh pins s σ H Q I h
  refine isTrue_or (thn (ha pins s σ H _ I h) fun c s1 hzz => ?_)
  obtain ⟨H1, I1, q1⟩ := hzz
  cases c with
  | true => exact ⟨H1, I1, q1⟩
  | false => exact hb wh pins s1 σ H1 Q I1 q1
theorem pt_not (ha : PT X a tA) : PT X (.UnaryOp .Not a pos) (tNot tA) := by
  intro pins s σ H Q I h
  exact isTrue_not (ha pins s σ H (fun c H1 => Q (!c) H1) I h)
noncomputable def tIf (t : TT) (ta tb : TE) : TE := fun σ H Q => t σ H fun c H1 => if c = true then ta σ H1 Q else tb σ H1 Q
theorem pe_ifExp {c : Expr} (hc : PT X c tA) (ha : PE X a ta) (hb : PE X b tb) : PE X (.IfExp c a b pos) (tIf tA ta tb) := by
  intro pins s σ H Q I h
  refine wpAny_IfExp (thn (hc pins s σ H _ I h) fun d s1 hzz => ?_)
  obtain ⟨H1, I1, q1⟩ := hzz
  cases d with
  | true => exact ha pins s1 σ H1 Q I1 q1
  | false => exact hb pins s1 σ H1 Q I1 q1
end
end L2

namespace L2
open PySem PySem.Spec PyProof.Rows

noncomputable def SqL (K : PySem.W.Frag) (H : Hp) (a : Addr) (xs : List V) : Prop :=
  Rd H a (.lst xs) ∨
    ∃ (o : Obj) (its : Array Value) (n : Nat), K.lookup a = some o ∧ o.cls = .type "list" ∧ o.dict = none ∧ o.data = .seq its n ∧ its.size ≤ sizeLine ∧ Vals xs its.toList
noncomputable def SqT (K : PySem.W.Frag) (H : Hp) (a : Addr) (xs : List V) : Prop :=
  Rd H a (.tup xs) ∨
    ∃ (o : Obj) (its : Array Value) (n : Nat), K.lookup a = some o ∧ o.cls = .type "tuple" ∧ o.data = .seq its n ∧ its.size ≤ sizeLine ∧ Vals xs its.toList
noncomputable def absV : Value → Option V
  | .none => some .non
  | .bool b => some (.bl b)
  | .int i _ => some (.int i)
  | .str x _ => some (.str x)
  | .bytes b _ => some (.byt b)
  | .float b _ => some (.flt b)
  | .ref a => some (.ref a)
  | .type n => some (.ty n)
  | _ => none
theorem RelV.abs {x : V} {u : Value} (r : RelV x u) : absV u = some x := by
  cases x with
  | non => cases r; rfl
  | bl _ => cases r; rfl
  | int _ => obtain ⟨t, rfl⟩ := r; rfl
  | str _ => obtain ⟨t, rfl⟩ := r; rfl
  | byt _ => obtain ⟨t, rfl⟩ := r; rfl
  | flt _ => obtain ⟨t, rfl⟩ := r; rfl
  | ref _ => cases r; rfl
  | ty _ => cases r; rfl
theorem RelV.inj {x y : V} {u : Value} (r : RelV x u) (q : RelV y u) : x = y := Option.some.inj (r.abs.symm.trans q.abs)
theorem Vals.inj {xs ys : List V} {us : List Value} (h : Vals xs us) (h' : Vals ys us) : xs = ys := by
  induction h generalizing ys with
  | nil => cases h'; rfl
  | cons r _ ih =>
    cases h' with
    | cons r' t' => exact congr (congrArg List.cons (r.inj r')) (ih t')
section
variable {X : Cx} {pins : List (Addr × Obj)} {σ : St} {H : Hp} {s : Shared} {a : Addr} {xs ys : List V}
theorem SqL.of {K : PySem.W.Frag} (h : H a = some (.lst xs)) : SqL K H a xs := .inl (.inl h)
theorem SqT.of {K : PySem.W.Frag} (h : H a = some (.tup xs)) : SqT K H a xs := .inl (.inl h)
theorem Inv.list (I : Inv X pins σ H s) (h : SqL X.K H a xs) : ∃ its : List Value, Vals xs its ∧ PlainL s.heap a its.toArray ∧ xs.length ≤ sizeLine := by
  rcases h with h | ⟨o, its, n, hk, hc, hd, hs, hz, r⟩
  · obtain ⟨z, its, n, r, e⟩ := h.ok I.hok
    exact ⟨its, r, ⟨_, n, e, rfl, rfl, rfl⟩, z⟩
  · refine ⟨its.toList, r, ⟨o, n, I.kIn a o hk, hc, hd, by simpa using hs⟩, ?_⟩
    have e := r.length
    simp only [Array.length_toList] at e
    omega
theorem Inv.tuple (I : Inv X pins σ H s) (h : SqT X.K H a xs) : ∃ its : List Value, Vals xs its ∧ IsTup s.heap a its.toArray ∧ xs.length ≤ sizeLine := by
  rcases h with h | ⟨o, its, n, hk, hc, hs, hz, r⟩
  · obtain ⟨z, its, r, p⟩ := h.ok I.hok
    exact ⟨its, r, p, z⟩
  · refine ⟨its.toList, r, ⟨o, I.kIn a o hk, hc, n, by simpa using hs⟩, ?_⟩
    have e := r.length
    simp only [Array.length_toList] at e
    omega
theorem Inv.list_inj (I : Inv X pins σ H s) (h : SqL X.K H a xs) (h' : SqL X.K H a ys) : xs = ys := by
  obtain ⟨its, r, ⟨o, n, e, _, _, d⟩, _⟩ := I.list h
  obtain ⟨its', r', ⟨o', n', e', _, _, d'⟩, _⟩ := I.list h'
  rw [e] at e'; cases e'
  rw [d] at d'
  injection d' with d1 _
  have : its = its' := by simpa using congrArg Array.toList d1
  subst this
  exact r.inj r'
theorem Inv.tuple_inj (I : Inv X pins σ H s) (h : SqT X.K H a xs) (h' : SqT X.K H a ys) : xs = ys := by
  obtain ⟨its, r, ⟨o, e, _, n, d⟩, _⟩ := I.tuple h
  obtain ⟨its', r', ⟨o', e', _, n', d'⟩, _⟩ := I.tuple h'
  rw [e] at e'; cases e'
  rw [d] at d'
  injection d' with d1 _
  have : its = its' := by simpa using congrArg Array.toList d1
  subst this
  exact r.inj r'
end

noncomputable abbrev Cx.wish (X : Cx) (E : Value → Shared → Prop) : Cx := { X with xe := E }
noncomputable abbrev Cx.nox (X : Cx) : Cx := X.wish fun _ _ => False
theorem Cx.Ok.wish {X : Cx} (ok : X.Ok) (E : Value → Shared → Prop) : (X.wish E).Ok :=
  ⟨ok.mod, ok.kind, ok.glob, ok.blt, ok.above, ok.inj, ok.has, ok.cab, ok.hd, ok.frames, ok.stk, ok.exf, ok.bs, ok.bsz, ok.noex, ok.exfs, ok.funs, ok.frf⟩
theorem Cx.Ok.unwish {X : Cx} {E : Value → Shared → Prop} (ok : (X.wish E).Ok) : X.Ok :=
  ⟨ok.mod, ok.kind, ok.glob, ok.blt, ok.above, ok.inj, ok.has, ok.cab, ok.hd, ok.frames, ok.stk, ok.exf, ok.bs, ok.bsz, ok.noex, ok.exfs, ok.funs, ok.frf⟩
section
variable {X : Cx} {pins : List (Addr × Obj)} {σ : St} {H : Hp} {s : Shared} {E : Value → Shared → Prop}
theorem Inv.wish (I : Inv X pins σ H s) (E : Value → Shared → Prop) : Inv (X.wish E) pins σ H s := ⟨I.ok.wish E, I.os, I.bare, I.base, I.loc, I.cell, I.free, I.freeC, I.pin, I.hok, I.len⟩
theorem Inv.unwish (I : Inv (X.wish E) pins σ H s) : Inv X pins σ H s := ⟨I.ok.unwish, I.os, I.bare, I.base, I.loc, I.cell, I.free, I.freeC, I.pin, I.hok, I.len⟩
theorem SP.unwish {D : Ends} {f : Flow} {s' : Shared} (h : SP (X.wish E) pins D f s') : SP X pins D f s' := by
  cases f with
  | next => obtain ⟨σ', H', I, q⟩ := h; exact ⟨σ', H', I.unwish, q⟩
  | brk => obtain ⟨σ', H', I, q⟩ := h; exact ⟨σ', H', I.unwish, q⟩
  | cont => obtain ⟨σ', H', I, q⟩ := h; exact ⟨σ', H', I.unwish, q⟩
  | ret u => obtain ⟨v, σ', H', I, r, q⟩ := h; exact ⟨v, σ', H', I.unwish, r, q⟩
theorem PSs.nox {st : List Stmt} {t : TS} (h : PSs X.nox st t) : PSs X st t := fun pins s σ H D I hw =>
  wpAny_mono (h pins s σ H D (I.wish _) hw) (fun _ _ q => q.unwish) fun _ _ z => False.elim z
end

section
variable {X : Cx} {st : Stmt} {rest : List Stmt} {t u : TS} {e : Expr} {te : TE} {pos : Pos}
noncomputable def tNext : TS := fun D σ H => D.nx σ H
noncomputable def tSeq (t u : TS) : TS := fun D σ H => t { D with nx := u D } σ H
theorem pss_nil : PSs X [] tNext := fun _ _ σ H _ I h => wpAny_execs_nil ⟨σ, H, I, h⟩
theorem pss_cons (h1 : PS X st t) (h2 : PSs X rest u) : PSs X (st :: rest) (tSeq t u) := by
  intro pins s σ H D I h
  refine wpAny_execs_cons (thn (h1 pins s σ H { D with nx := u D } I h) fun f s1 q => ?_)
  cases f with
  | next =>
    obtain ⟨σ', H', I', q⟩ := q
    exact h2 pins s1 σ' H' D I' q
  | ret v => exact q
  | brk => exact q
  | cont => exact q
theorem pss_one (h1 : PS X st t) : PSs X [st] t := by
  intro pins s σ H D I h
  refine wpAny_execs_cons (thn (h1 pins s σ H D I h) fun f s1 q => ?_)
  cases f with
  | next => exact wpAny_execs_nil q
  | ret v => exact q
  | brk => exact q
  | cont => exact q
theorem Inv.quiet {pins : List (Addr × Obj)} {σ : St} {H : Hp} {s : Shared} (I : Inv X pins σ H s) : interactive X.env = false := by simp [interactive, I.ok.kind]
noncomputable def tDrop (te : TE) : TS := fun D σ H => te σ H fun _ H1 => D.nx σ H1
theorem ps_expr (he : PE X e te) (hs : swapsWith e none pos.line X.env = pure false) : PS X (.Expr e pos) (tDrop te) := by
  intro pins s σ H D I h
  refine wpAny_Expr_any (thn (he pins s σ H _ I h) fun v s1 hzz => ?_) I.quiet hs
  obtain ⟨x, H1, I1, r1, q1⟩ := hzz
  exact ⟨σ, H1, I1, q1⟩
noncomputable def tRet (te : TE) : TS := fun D σ H => te σ H D.rt
theorem ps_ret (he : PE X e te) : PS X (.Return (some e) pos) (tRet te) := by
  intro pins s σ H D I h
  refine wpAny_Return_some (thn (he pins s σ H _ I h) fun v s1 hzz => ?_)
  obtain ⟨x, H1, I1, r1, q1⟩ := hzz
  exact ⟨x, σ, H1, I1, r1, q1⟩
noncomputable def tIfS (c : TT) (t u : TS) : TS := fun D σ H => c σ H fun b H1 => if b = true then t D σ H1 else u D σ H1
theorem ps_if {c : Expr} {a b : List Stmt} {tc : TT} (hc : PT X c tc) (ha : PSs X a t) (hb : PSs X b u) : PS X (.If c a b pos) (tIfS tc t u) := by
  intro pins s σ H D I h
  refine wpAny_If (thn (hc pins s σ H _ I h) fun d s1 hzz => ?_)
  obtain ⟨H1, I1, q1⟩ := hzz
  cases d with
  | true => exact ha pins s1 σ H1 D I1 q1
  | false => exact hb pins s1 σ H1 D I1 q1
end

noncomputable abbrev TG := V → St → Hp → (St → Hp → Prop) → Prop
noncomputable abbrev TGs := List V → St → Hp → (St → Hp → Prop) → Prop
noncomputable def PG (X : Cx) (target : Expr) (t : TG) : Prop :=
  ∀ (pins : List (Addr × Obj)) (s : Shared) (σ : St) (H : Hp) (v : V) (u : Value) (Q : St → Hp → Prop), Inv X pins σ H s → RelV v u → t v σ H Q →
    wpAny (model X.prog X.w) X.A (assign target X.env u) (fun _ s' => ∃ σ' H', Inv X pins σ' H' s' ∧ Q σ' H') X.xe s
noncomputable def PGs (X : Cx) (ts : List Expr) (t : TGs) : Prop :=
  ∀ (pins : List (Addr × Obj)) (s : Shared) (σ : St) (H : Hp) (vs : List V) (us : List Value) (Q : St → Hp → Prop), Inv X pins σ H s → Vals vs us → t vs σ H Q →
    wpAny (model X.prog X.w) X.A (assignInOrder ((assignEach ts X.env).map (·.2)) us) (fun _ s' => ∃ σ' H', Inv X pins σ' H' s' ∧ Q σ' H') X.xe s
noncomputable abbrev TSet := V → V → V → Hp → (Hp → Prop) → Prop
noncomputable def PSet (X : Cx) (t : TSet) : Prop :=
  ∀ (pins : List (Addr × Obj)) (s : Shared) (σ : St) (H : Hp) (o i v : V) (ov iv u : Value) (Q : Hp → Prop), Inv X pins σ H s → RelV o ov → RelV i iv → RelV v u → t o i v H Q →
    wpAny (model X.prog X.w) X.A (setItem ov iv u) (fun _ s' => ∃ H', Inv X pins σ H' s' ∧ Q H') X.xe s
section
variable {X : Cx} {pos : Pos}
noncomputable def gName (i : Nat) : TG := fun v σ H Q => Q (σ.set i (some v)) H
theorem pg_name {i : Nat} {x : Str} (hN : X.N.Nodup) (hi : X.N[i]? = some x) (hx : Loc X.env.scope x) (hf : X.fn x = true ∨ X.env.scope.names.lookup x = some .local) : PG X (.Name x pos) (gName i) := by
  intro pins s σ H v u Q I r h
  exact wpAny_assign_Name (store_ok I hN hi hx r (fun s' I' => ⟨_, H, I', h⟩) hf)
noncomputable def gNil : TGs := fun vs σ H Q => vs = [] ∧ Q σ H
noncomputable def gCons (t : TG) (u : TGs) : TGs := fun vs σ H Q => ∃ v r, vs = v :: r ∧ t v σ H fun σ' H' => u r σ' H' Q
theorem pgs_nil : PGs X [] gNil := by
  intro pins s σ H vs us Q I r h
  obtain ⟨e, h⟩ := h
  subst e
  cases r
  exact assignInOrder_nil ⟨σ, H, I, h⟩
theorem pgs_cons {e : Expr} {es : List Expr} {t : TG} {u : TGs} (h1 : PG X e t) (h2 : PGs X es u)
    (hs : (assignEach (e :: es) X.env).map (·.2) = assign e X.env :: (assignEach es X.env).map (·.2)) : PGs X (e :: es) (gCons t u) := by
  intro pins s σ H vs us Q I r h
  obtain ⟨v, vr, e1, h⟩ := h
  subst e1
  cases r with
  | cons r rr =>
    rw [hs]
    refine assignInOrder_cons (thn (h1 pins s σ H _ _ _ I r h) fun _ s1 hzz => ?_)
    obtain ⟨σ1, H1, I1, q1⟩ := hzz
    exact h2 pins s1 σ1 H1 _ _ Q I1 rr q1
noncomputable def gTup (K : PySem.W.Frag) (n : Nat) (t : TGs) : TG := fun v σ H Q => ∃ a xs, v = .ref a ∧ SqT K H a xs ∧ xs.length = n ∧ t xs σ H Q
theorem pg_tup {es : List Expr} {k : Nat} {t : TGs} {n : Nat} (hc : X.calm = true) (h : PGs X es t)
    (hn : (assignEach es X.env).length = n) (hst : (assignEach es X.env).findIdx? (·.1) = none) : PG X (.Tuple es k pos) (gTup X.K n t) := by
  intro pins s σ H v u Q I r hw
  obtain ⟨a, xs, e1, hq, hl, hw⟩ := hw
  subst e1
  cases r
  obtain ⟨its, rv, ht, hz⟩ := I.tuple hq
  refine assign_Tuple_tuple (I.ok.hd hc) ht (by simp [hn, ← hl, rv.length]) hst fun h' hx => ?_
  have I1 : Inv X pins σ H { s with heap := h' } := I.kept (t' := s.toks) fun b o e => hx b o (Nat.ne_of_lt (Heap.lt_size e)) e
  exact h pins _ σ H xs _ Q I1 (by simpa using rv) hw
noncomputable def gSub (to ti : TE) (t : TSet) : TG := fun v σ H Q => to σ H fun o H1 => ti σ H1 fun i H2 => t o i v H2 fun H3 => Q σ H3
theorem pg_sub {o i : Expr} {to ti : TE} {t : TSet} (ho : PE X o to) (hi : PE X i ti) (hs : PSet X t)
    (ha : ∀ v, assign (.Subscript o i pos) X.env v = (do
      let ov ← holding [v] (eval o X.env)
      let iv ← holding [v, ov] (eval i X.env)
      standAt pos
      holding [v, ov, iv] (setItem ov iv v)
      release [v, ov, iv] [])) : PG X (.Subscript o i pos) (gSub to ti t) := by
  intro pins s σ H v u Q I r h
  rw [ha]
  refine wpAny_bind (wpAny_holding (thn (ho pins s σ H _ I h) fun ov s1 hzz => ?_))
  obtain ⟨x, H1, I1, r1, q1⟩ := hzz
  refine wpAny_bind (wpAny_holding (thn (hi pins s1 σ H1 _ I1 q1) fun iv s2 hzz => ?_))
  obtain ⟨y, H2, I2, r2, q2⟩ := hzz
  refine wpAny_bind (wpAny_standAt (wpAny_bind (wpAny_holding (thn (hs pins s2 σ H2 x y v ov iv u _ I2 r1 r2 r q2) fun _ s3 hzz => ?_))))
  obtain ⟨H3, I3, q3⟩ := hzz
  exact wpAny_release ⟨σ, H3, I3, q3⟩
noncomputable def tAsg (te : TE) (g : TG) : TS := fun D σ H => te σ H fun x H1 => g x σ H1 D.nx
theorem ps_asg {tg e : Expr} {te : TE} {g : TG} (he : PE X e te) (hg : PG X tg g) (hs : swapsWithSole [tg] e pos.line X.env = pure false) (hw : swappedStores [tg] e X.env = pure none)
    (h1 : (assignEach [tg] X.env).map (·.2) = [assign tg X.env]) : PS X (.Assign [tg] e pos) (tAsg te g) := by
  intro pins s σ H D I h
  refine wpAny_Assign_stores (thn (he pins s σ H _ I h) fun v s1 hzz => ?_) hs hw
  obtain ⟨x, H1, I1, r1, q1⟩ := hzz
  rw [h1]
  exact thn (hg pins s1 σ H1 x v _ I1 r1 q1) fun _ s2 q => q
theorem ps_set {i : Nat} {x : Str} {e : Expr} {te : TE} {pos' : Pos} (hN : X.N.Nodup) (hi : X.N[i]? = some x) (hx : Loc X.env.scope x) (he : PE X e te) (hs : swapsWith e (some (.Name x pos')) pos.line X.env = pure false) (hf : X.fn x = true ∨ X.env.scope.names.lookup x = some .local) :
    PS X (.Assign [.Name x pos'] e pos) (tAsg te (gName i)) := by
  intro pins s σ H D I h
  refine wpAny_Assign_Name (thn (he pins s σ H _ I h) fun v s1 hzz => ?_) hs
  obtain ⟨y, H1, I1, r1, q1⟩ := hzz
  exact store_ok I1 hN hi hx r1 (fun s2 I2 => ⟨_, H1, I2, q1⟩) hf
end

section
variable {X : Cx} {pos : Pos}
noncomputable def tWhile (c : TT) (tb : TS) : TS := fun D σ H => ∃ W : Nat → St → Hp → Prop, (∃ m, W m σ H) ∧ ∀ m σ H, W m σ H →
  c σ H fun b H1 => if b = true then ∃ N : St → Hp → Prop, (∀ σ' H', N σ' H' → ∃ m', m' < m ∧ W m' σ' H') ∧ tb { D with nx := N, ct := N, bk := D.nx } σ H1 else D.nx σ H1
theorem ps_while {c : Expr} {body : List Stmt} {tc : TT} {tb : TS} (hp : PassesOwn (model X.prog X.w) X.A X.env X.xe) (hc : PT X c tc) (hb : PSs X body tb) : PS X (.While c body [] pos) (tWhile tc tb) := by
  intro pins s σ H D I h
  obtain ⟨W, ⟨m0, w0⟩, turn⟩ := h
  refine wpAny_While (codeAny_whileLoop (fun n s' => ∃ σ' H', Inv X pins σ' H' s' ∧ W n σ' H') ?_ m0 ⟨σ, H, I, w0⟩)
  rintro n s1 ⟨σ1, H1, I1, w1⟩
  refine wpAny_passesOwn hp (thn (hc pins s1 σ1 H1 _ I1 (turn n σ1 H1 w1)) fun b s2 hzz => ?_)
  obtain ⟨H2, I2, q2⟩ := hzz
  cases b with
  | true =>
    obtain ⟨N, hN, q2⟩ := q2
    rw [if_pos rfl]
    refine wpAny_passesOwn hp (thn (hb pins s2 σ1 H2 _ I2 q2) fun f s3 q3 => ?_)
    cases f with
    | next =>
      obtain ⟨σ3, H3, I3, n3⟩ := q3
      obtain ⟨m', hm, w3⟩ := hN σ3 H3 n3
      exact ⟨m', hm, σ3, H3, I3, w3⟩
    | cont =>
      obtain ⟨σ3, H3, I3, n3⟩ := q3
      obtain ⟨m', hm, w3⟩ := hN σ3 H3 n3
      exact ⟨m', hm, σ3, H3, I3, w3⟩
    | brk => exact q3
    | ret v => exact q3
  | false =>
    rw [if_neg Bool.false_ne_true]
    exact wpAny_execs_nil ⟨σ1, H2, I2, q2⟩
end
structure It where
  go : Nat → Hp → Prop
  yld : Nat → Hp → V → Hp → Prop
  stop : Nat → Hp → Prop
noncomputable def FpOk (X : Cx) (pins : List (Addr × Obj)) (H : Hp) (b : Addr) : Prop :=
  H b = none ∧ b ≠ X.env.locals ∧ b ∉ X.fs ∧ (b ∈ X.ex ∨ X.s_0.heap.objs.size ≤ b) ∧ (∀ x c, X.env.cells.lookup x = some c → c ≠ b) ∧ ∀ p ∈ X.pn ++ pins, p.1 ≠ b
theorem Inv.fpOk {X : Cx} {pins : List (Addr × Obj)} {σ : St} {H H' : Hp} {s : Shared} {b : Addr} (I : Inv X pins σ H s) (hb : s.heap.objs.size ≤ b) (hn : H' b = none) : FpOk X pins H' b := by
  refine ⟨hn, Nat.ne_of_gt (Nat.lt_of_lt_of_le I.lt hb), I.nofs hb, .inr (Nat.le_trans I.sz hb), fun x c e z => ?_, fun p hp z => ?_⟩
  · obtain ⟨v, q⟩ := I.cell x c e
    exact absurd (Nat.lt_of_lt_of_le q.lt (by rw [z]; exact hb)) (Nat.lt_irrefl _)
  · exact absurd (Nat.lt_of_lt_of_le (Heap.lt_size (I.pin p hp).1) (by rw [z]; exact hb)) (Nat.lt_irrefl _)
structure Turn (P : Program) (w : World) (K : PySem.W.Frag) (tg : Expr) (J : It) (fp : List Addr) (it : Addr) (tn : Nat → Heap → Prop) : Prop where
  mem : it ∈ fp
  obj : ∀ i h, tn i h → ∀ b ∈ fp, ∃ o, h.get? b = some o ∧ ∀ v, o.data ≠ .cell v
  keep : ∀ i h h', tn i h → (∀ b ∈ fp, ∀ o, h.get? b = some o → h'.get? b = some o) → tn i h'
  item : ∀ (X : Cx), X.prog = P → X.w = w → X.K = K → X.calm = true → ∀ (i : Nat) (pins : List (Addr × Obj)) (s : Shared) (σ : St) (H : Hp) (E : Value → Shared → Prop), Inv X pins σ H s → (∀ b ∈ fp, FpOk X pins H b) → tn i s.heap → J.go i H →
    wpAny (model P w) X.A (pyNext (.ref it)) (fun r s1 => ∃ u, r = some u ∧
      wpAny (model P w) X.A (letOwnedTupleGo tg (.ref it) u) (fun _ s2 => ∃ x H', Inv X pins σ H' s2 ∧ RelV x u ∧ J.yld i H x H' ∧ tn (i + 1) s2.heap ∧ ∀ b ∈ fp, H' b = none) E s1) E s
  done : ∀ (X : Cx), X.prog = P → X.w = w → X.K = K → X.calm = true → ∀ (i : Nat) (pins : List (Addr × Obj)) (s : Shared) (σ : St) (H : Hp) (E : Value → Shared → Prop), Inv X pins σ H s → (∀ b ∈ fp, FpOk X pins H b) → tn i s.heap → J.stop i H →
    wpAny (model P w) X.A (pyNext (.ref it)) (fun r s1 => r = none ∧ Inv X pins σ H s1) E s
  self : ∀ (A : Around) (i : Nat) (s : Shared) (Q : Value → Shared → Prop) (E : Value → Shared → Prop), tn i s.heap → Q (.ref it) s → wpAny (model P w) A (pyIter (.ref it)) Q E s
noncomputable abbrev TI := St → Hp → (It → Hp → Prop) → Prop
noncomputable def PIE (X : Cx) (pins : List (Addr × Obj)) (σ : St) (tg : Expr) (R : It → Hp → Prop) (itv : Value) (s2 : Shared) : Prop :=
  ∃ (it : Addr) (fp : List Addr) (tn : Nat → Heap → Prop) (J : It) (H' : Hp), itv = .ref it ∧ Inv X pins σ H' s2 ∧ Turn X.prog X.w X.K tg J fp it tn ∧ tn 0 s2.heap ∧ (∀ b ∈ fp, FpOk X pins H' b) ∧ R J H'
noncomputable def PI (X : Cx) (tg iter : Expr) (wi : TI) : Prop :=
  ∀ (pins : List (Addr × Obj)) (s : Shared) (σ : St) (H : Hp) (R : It → Hp → Prop), Inv X pins σ H s → wi σ H R →
    wpAny (model X.prog X.w) X.A (eval iter X.env) (fun v s1 => wpAny (model X.prog X.w) X.A (pyIter v) (PIE X pins σ tg R) X.xe s1) X.xe s
theorem go_of {M : Model} {A : Around} {E : Value → Shared → Prop} {s : Shared} {tg : Expr} {it : Addr} {u : Value} {o : Obj} {n : String} {vs : Array Value} {Q : Unit → Shared → Prop} (ho : s.heap.get? it = some o) (hc : o.cls = .type n) (hd : o.data = .fields vs)
    (hn : ["enumerate", "zip", "dict_itemiterator", "dict_reverseitemiterator", "odict_iterator", "itertools.zip_longest", "itertools.pairwise"].contains n = false) (hQ : Q () s) : wpAny M A (letOwnedTupleGo tg (.ref it) u) Q E s := by
  unfold letOwnedTupleGo
  cases tg <;> first
    | exact wpAny_pure hQ
    | (cases u <;> first
        | exact wpAny_pure hQ
        | (refine wpAny_bind (wpAny_load ho ?_)
           rw [hc, hd]
           show wpAny M A (if (["enumerate", "zip", "dict_itemiterator", "dict_reverseitemiterator", "odict_iterator", "itertools.zip_longest", "itertools.pairwise"].contains n && vs[0]? == some (rawInt _)) = true then _ else _) Q E s
           rw [if_neg (by intro h; rw [hn, Bool.false_and] at h; cases h)]
           exact wpAny_pure hQ))

noncomputable def Itt (K : PySem.W.Frag) (a : Addr) : It :=
  ⟨fun i H => ∃ xs x, SqT K H a xs ∧ xs[i]? = some x, fun i H x H' => H' = H ∧ ∀ xs, SqT K H a xs → xs[i]? = some x, fun i H => ∃ xs, SqT K H a xs ∧ xs.length ≤ i⟩
noncomputable def Itr (lo : Int) (n : Nat) : It := ⟨fun i _ => i < n, fun i H x H' => H' = H ∧ x = .int (lo + i), fun i _ => n ≤ i⟩
theorem turn_tuple {P : Program} {w : World} {K : PySem.W.Frag} {tg : Expr} (a it : Addr) : Turn P w K tg (Itt K a) [it] it (fun i h => h.IsTupleIter it a i) where
  mem := by simp
  obj := fun i h st b hb => by
    have e : b = it := by simpa using hb
    subst e
    obtain ⟨o, e, c, d⟩ := st
    exact ⟨o, e, fun v z => by rw [d] at z; cases z⟩
  keep := fun i h h' st k => st.at fun o e => k it (by simp) o e
  item := by
    intro X hP hw hK hc i pins s σ H E I hf st hg
    subst hP hw hK
    obtain ⟨xs, x, hq, hx⟩ := hg
    obtain ⟨its, rv, p, hz⟩ := I.tuple hq
    obtain ⟨u, hu, ru⟩ := rv.get hx
    obtain ⟨f0, f1, f2, f3, f4, f5⟩ := hf it (by simp)
    refine wpAny_pyNext_tuple_item st (show s.heap.IsTuple a its.toArray from p) (x := u) (by simpa using hu) fun h' st' sb => ?_
    have I1 : Inv X pins σ H { s with heap := h' } := I.turned (t' := s.toks) (fun b o hb e => (sb.2 b hb).trans e) f0 f1 f3 f4 f5
    obtain ⟨o, e, c, d⟩ := id st'
    exact ⟨u, rfl, go_of (s := { s with heap := h' }) e c d (by decide) ⟨x, H, I1, ru, ⟨rfl, fun ys hy => by rw [I.tuple_inj hy hq]; exact hx⟩, st', fun b hb => (hf b hb).1⟩⟩
  done := by
    intro X hP hw hK hc i pins s σ H E I hf st hg
    subst hP hw hK
    obtain ⟨xs, hq, hx⟩ := hg
    obtain ⟨its, rv, p, hz⟩ := I.tuple hq
    obtain ⟨f0, f1, f2, f3, f4, f5⟩ := hf it (by simp)
    have hl := rv.length
    exact wpAny_pyNext_tuple_end (I.ok.hd hc) st (show s.heap.IsTuple a its.toArray from p) (by simp; omega) fun h' eb => ⟨rfl, I.turned (t' := s.toks) (fun b o hb e => eb b o hb e) f0 f1 f3 f4 f5⟩
  self := fun _ _ _ _ _ st h => wpAny_pyIter_tupleiter st h
theorem turn_range {P : Program} {w : World} {K : PySem.W.Frag} {tg : Expr} (it : Addr) (lo : Int) (n : Nat) : Turn P w K tg (Itr lo n) [it] it (fun i h => IsRangeIter h it (lo + (i : Nat) * 1) ((n : Int) - (i : Nat)) 1) where
  mem := by simp
  obj := fun i h st b hb => by
    have e : b = it := by simpa using hb
    subst e
    exact ⟨_, st, fun v z => by
      have z' : Data.fields _ = Data.cell v := z
      cases z'⟩
  keep := fun i h h' st k => k it (by simp) _ st
  item := by
    intro X hP hw hK hc i pins s σ H E I hf st hg
    subst hP hw hK
    obtain ⟨f0, f1, f2, f3, f4, f5⟩ := hf it (by simp)
    have W := Walks.range (prog := X.prog) (w := X.w) (I.ok.hd hc) it lo 1 n
    refine W.item i s _ _ hg st fun v h' tk hv st' kk => ?_
    obtain ⟨t, rfl⟩ := hv
    have I1 : Inv X pins σ H { s with heap := h', toks := tk } := I.turned (fun b o hb e => kk b o (by simpa using hb) e) f0 f1 f3 f4 f5
    refine ⟨_, rfl, go_of (s := { s with heap := h', toks := tk }) (n := "range_iterator") st' rfl rfl (by decide) ⟨.int (lo + i), H, I1, ⟨t, ?_⟩, ⟨rfl, rfl⟩, st', fun b hb => (hf b hb).1⟩⟩
    rw [Int.mul_one]
  done := by
    intro X hP hw hK hc i pins s σ H E I hf st hg
    subst hP hw hK
    obtain ⟨f0, f1, f2, f3, f4, f5⟩ := hf it (by simp)
    exact wpAny_pyNext_range_end (I.ok.hd hc) st (by have : n ≤ i := hg; omega) fun h' eb => ⟨rfl, I.turned (t' := s.toks) (fun b o hb e => eb b o hb e) f0 f1 f3 f4 f5⟩
  self := fun _ _ _ _ _ st h => wpAny_pyIter_rangeiter st h
end L2

namespace L2
open PySem PySem.Spec PyProof.Rows
section
variable {X : Cx} {tg : Expr}
noncomputable def iTup (K : PySem.W.Frag) (tl : TE) : TI := fun σ H R => tl σ H fun x H1 => ∃ a, x = .ref a ∧ (∃ xs, SqT K H1 a xs) ∧ R (Itt K a) H1
theorem pi_tup {l : Expr} {tl : TE} (hl : PE X l tl) : PI X tg l (iTup X.K tl) := by
  intro pins s σ H R I h
  refine thn (hl pins s σ H _ I h) fun v s1 hzz => ?_
  obtain ⟨x, H1, I1, r1, q1⟩ := hzz
  obtain ⟨a, e, ⟨xs, hq⟩, q⟩ := q1
  subst e
  cases r1
  obtain ⟨its, rv, p, hz⟩ := I1.tuple hq
  refine wpAny_pyIter_tuple (show s1.heap.IsTuple a its.toArray from p) ?_
  refine ⟨s1.heap.objs.size, [s1.heap.objs.size], _, _, H1, rfl, I1.kept (t' := s1.toks) fun b o e => Heap.get?_push_of_some _ e, turn_tuple a _, ⟨_, Heap.get?_push_size _ rfl, rfl, rfl⟩, fun b hb => ?_, q⟩
  have e : b = s1.heap.objs.size := by simpa using hb
  subst e
  exact I1.fpOk (Nat.le_refl _) (I1.hok.fresh (Nat.le_refl _))
theorem range_it {pins : List (Addr × Obj)} {σ : St} {H : Hp} {s : Shared} {R : It → Hp → Prop} {E : Value → Shared → Prop} {lo hi : Int} {t u v : Tok} {tk : Nat} (I : Inv X pins σ H s) (h1 : -(2 ^ 62) ≤ lo) (h2 : lo < 2 ^ 62) (h3 : -(2 ^ 62) ≤ hi) (h4 : hi < 2 ^ 62)
    (q : R (Itr lo (hi - lo).toNat) H) : wpAny (model X.prog X.w) X.A (pyIter (.ref s.heap.objs.size)) (PIE X pins σ tg R) E { s with heap := s.heap.push { cls := .type "range", data := .fields #[.int lo t, .int hi u, .int 1 v] }, toks := tk } := by
  refine wpAny_pyIter_range (IsRange.new ..) (small_one h1 h2 h3 h4) ?_
  have I1 : Inv X pins σ H { s with heap := s.heap.push { cls := .type "range", data := .fields #[.int lo t, .int hi u, .int 1 v] }, toks := tk } := I.kept fun b o e => Heap.get?_push_of_some _ e
  refine ⟨(s.heap.push { cls := .type "range", data := .fields #[.int lo t, .int hi u, .int 1 v] }).objs.size, [(s.heap.push { cls := .type "range", data := .fields #[.int lo t, .int hi u, .int 1 v] }).objs.size], _, _, H, rfl,
    I1.kept (t' := tk) fun b o e => Heap.get?_push_of_some _ e, turn_range _ lo (hi - lo).toNat, ?_, fun b hb => ?_, q⟩
  · have e1 : lo + ((0 : Nat) : Int) * 1 = lo := by simp
    have e2 : (((hi - lo).toNat : Nat) : Int) - ((0 : Nat) : Int) = Builtin.Range.rangeSize lo hi 1 := by rw [rangeSize_one]; split <;> omega
    show IsRangeIter _ _ (lo + ((0 : Nat) : Int) * 1) ((((hi - lo).toNat : Nat) : Int) - ((0 : Nat) : Int)) 1
    rw [e1, e2]
    exact Heap.get?_push_size _ rfl
  · have e : b = (s.heap.push { cls := .type "range", data := .fields #[.int lo t, .int hi u, .int 1 v] }).objs.size := by simpa using hb
    subst e
    exact I1.fpOk (Nat.le_refl _) (I1.hok.fresh (Nat.le_refl _))
noncomputable def iRng1 (ta : TA) : TI := fun σ H R => ta σ H fun vs H1 => ∃ j : Int, vs = [.int j] ∧ -(2 ^ 62) ≤ j ∧ j < 2 ^ 62 ∧ R (Itr 0 j.toNat) H1
theorem pi_range1 {a : Expr} {ta : TA} {p pos : Pos} (hg : Gl X "range") (hm : X.mg "range" = none) (ha : PA X [a] ta) (hs : starEach [a] X.env = [(false, eval a X.env)]) : PI X tg (.Call (.Name "range" p) [a] [] pos) (iRng1 ta) := by
  intro pins s σ H R I h
  refine Call_ (ld_blt I hg hm boot_range (PyProof.Rows.callWith_type1 (thn (ha pos pins s σ H _ I h) fun us s1 hzz => ?_) hs rfl) (by decide) (by decide))
  obtain ⟨vs, H1, I1, r1, q1⟩ := hzz
  obtain ⟨j, e, q1, q2, q⟩ := q1
  subst e
  cases r1 with
  | cons r rr =>
    cases rr
    obtain ⟨t, rfl⟩ := r
    exact call_range_1 (range_it I1 (by omega) (by omega) q1 q2 (by simpa using q))
noncomputable def tFor (wi : TI) (g : TG) (tb : TS) : TS := fun D σ H => wi σ H fun J H1 => ∃ W : Nat → Nat → St → Hp → Prop, (∃ m, W 0 m σ H1) ∧ ∀ i m σ H, W i m σ H →
  (J.stop i H ∧ D.nx σ H) ∨ (J.go i H ∧ ∃ N : St → Hp → Prop, (∀ σ' H', N σ' H' → ∃ m', m' < m ∧ W (i + 1) m' σ' H') ∧ ∀ x H', J.yld i H x H' → g x σ H' fun σ2 H2 => tb { D with nx := N, ct := N, bk := D.nx } σ2 H2)
noncomputable def pinsAt (fp : List Addr) (h : Heap) : List (Addr × Obj) := fp.filterMap fun b => (h.get? b).map fun o => (b, o)
theorem mem_pinsAt {fp : List Addr} {h : Heap} {b : Addr} {o : Obj} (hb : b ∈ fp) (e : h.get? b = some o) : (b, o) ∈ pinsAt fp h := List.mem_filterMap.mpr ⟨b, hb, by rw [e]; rfl⟩
theorem of_pinsAt {fp : List Addr} {h : Heap} {p : Addr × Obj} (hp : p ∈ pinsAt fp h) : p.1 ∈ fp ∧ h.get? p.1 = some p.2 := by
  obtain ⟨b, hb, e⟩ := List.mem_filterMap.mp hp
  cases q : h.get? b with
  | none => rw [q] at e; cases e
  | some o =>
    rw [q] at e
    have e' : (b, o) = p := Option.some.inj e
    subst e'
    exact ⟨hb, q⟩
theorem Inv.pinned {pins : List (Addr × Obj)} {σ : St} {H : Hp} {s : Shared} {fp : List Addr} (I : Inv X pins σ H s) (hf : ∀ b ∈ fp, FpOk X pins H b) (ho : ∀ b ∈ fp, ∃ o, s.heap.get? b = some o ∧ ∀ v, o.data ≠ .cell v) : Inv X (pins ++ pinsAt fp s.heap) σ H s :=
  I.pins_of fun p hp => (List.mem_append.mp hp).elim (fun z => I.pin p (List.mem_append_right _ z)) fun z => by
    obtain ⟨hb, e⟩ := of_pinsAt z
    obtain ⟨f0, f1, f2, _⟩ := hf p.1 hb
    obtain ⟨o, e', d⟩ := ho p.1 hb
    rw [e] at e'; cases e'
    exact ⟨e, f0, f1, f2, d⟩
theorem Inv.unpinned {pins pl : List (Addr × Obj)} {σ : St} {H : Hp} {s : Shared} (I : Inv X (pins ++ pl) σ H s) : Inv X pins σ H s := I.pins_of fun p hp => I.pin p (List.mem_append_right _ (List.mem_append_left _ hp))
theorem ps_for {iter : Expr} {body : List Stmt} {wi : TI} {g : TG} {tb : TS} {pos : Pos} (hp : PassesOwn (model X.prog X.w) X.A X.env X.xe) (hc : X.calm = true) (hi : PI X tg iter wi) (hg : PG X tg g) (hb : PSs X body tb)
    (hs : ∀ x, foldedSetIterable iter X.env x = pure x) : PS X (.For tg iter body [] pos) (tFor wi g tb) := by
  intro pins s σ H D I h
  refine wpAny_For (thn (hi pins s σ H _ I h) fun v s1 h1 => thn h1 fun itv s2 h2 => ?_) hs
  obtain ⟨it, fp, tn, J, H2, e, I2, T, st2, f2, W, ⟨m0, w0⟩, turn⟩ := h2
  subst e
  -- what stays true of the iterator's objects through the loop
  have stat : ∀ {H' : Hp}, (∀ b ∈ fp, H' b = none) → ∀ b ∈ fp, FpOk X pins H' b := fun hn b hb => ⟨hn b hb, (f2 b hb).2⟩
  refine codeAny_forLoop_any (fun n s' => ∃ i σ' H', Inv X pins σ' H' s' ∧ tn i s'.heap ∧ (∀ b ∈ fp, H' b = none) ∧ W i n σ' H') ?_ m0 ⟨0, σ, H2, I2, st2, fun b hb => (f2 b hb).1, w0⟩
  rintro n s3 ⟨i, σ3, H3, I3, st3, fr3, w3⟩
  rcases turn i n σ3 H3 w3 with ⟨stop, qn⟩ | ⟨go, N, hN, step⟩
  · refine wpAny_passesOwn hp (thn (T.done X rfl rfl rfl hc i pins s3 σ3 H3 X.xe I3 (stat fr3) st3 stop) fun r s4 hzz => ?_)
    obtain ⟨hr, I4⟩ := hzz
    subst hr
    exact wpAny_execs_nil ⟨σ3, H3, I4, qn⟩
  · refine wpAny_passesOwn hp (thn (T.item X rfl rfl rfl hc i pins s3 σ3 H3 X.xe I3 (stat fr3) st3 go) fun r s4 hzz => ?_)
    obtain ⟨u, hr, h4⟩ := hzz
    subst hr
    refine wpAny_passesOwn hp (thn h4 fun _ s5 hzz => ?_)
    obtain ⟨x, H5, I5, r5, y5, st5, fr5⟩ := hzz
    have I5' := I5.pinned (stat fr5) (T.obj _ _ st5)
    refine wpAny_passesOwn hp (thn (hg _ s5 σ3 H5 x u _ I5' r5 (step x H5 y5)) fun _ s6 hzz => ?_)
    obtain ⟨σ6, H6, I6, q6⟩ := hzz
    refine wpAny_passesOwn hp (thn (hb _ s6 σ6 H6 _ I6 q6) fun f s7 q7 => ?_)
    have again : ∀ {σ7 : St} {H7 : Hp}, Inv X (pins ++ pinsAt fp s5.heap) σ7 H7 s7 → N σ7 H7 → ∃ m, m < n ∧ ∃ i σ' H', Inv X pins σ' H' s7 ∧ tn i s7.heap ∧ (∀ b ∈ fp, H' b = none) ∧ W i m σ' H' := fun {σ7 H7} I7 n7 => by
      obtain ⟨m', hm, w7⟩ := hN σ7 H7 n7
      refine ⟨m', hm, i + 1, σ7, H7, I7.unpinned, T.keep _ _ _ st5 fun b hb o e => (I7.pin (b, o) (List.mem_append_right _ (List.mem_append_right _ (mem_pinsAt hb e)))).1, fun b hb => ?_, w7⟩
      obtain ⟨o, e, d⟩ := T.obj _ _ st5 b hb
      exact (I7.pin (b, o) (List.mem_append_right _ (List.mem_append_right _ (mem_pinsAt hb e)))).2.1
    cases f with
    | next => obtain ⟨σ7, H7, I7, n7⟩ := q7; exact again I7 n7
    | cont => obtain ⟨σ7, H7, I7, n7⟩ := q7; exact again I7 n7
    | brk => obtain ⟨σ7, H7, I7, q7⟩ := q7; exact ⟨σ7, H7, I7.unpinned, q7⟩
    | ret v => obtain ⟨x7, σ7, H7, I7, r7, q7⟩ := q7; exact ⟨x7, σ7, H7, I7.unpinned, r7, q7⟩
end
theorem while_by {c : TT} {tb : TS} {D : Ends} {σ : St} {H : Hp} (Pv : St → Hp → Prop) (μ : St → Hp → Nat) (h0 : Pv σ H)
    (hs : ∀ σ H, Pv σ H → c σ H fun b H1 => if b = true then tb { D with nx := fun σ' H' => Pv σ' H' ∧ μ σ' H' < μ σ H, ct := fun σ' H' => Pv σ' H' ∧ μ σ' H' < μ σ H, bk := D.nx } σ H1 else D.nx σ H1)
    (mono : ∀ σ H Q Q', (∀ b H1, Q b H1 → Q' b H1) → c σ H Q → c σ H Q') : tWhile c tb D σ H := by
  refine ⟨fun m σ H => m = μ σ H ∧ Pv σ H, ⟨_, rfl, h0⟩, ?_⟩
  rintro m σ H ⟨rfl, p⟩
  refine mono σ H _ _ (fun b H1 q => ?_) (hs σ H p)
  cases b with
  | true => exact ⟨_, fun σ' H' ⟨p', l⟩ => ⟨_, l, rfl, p'⟩, q⟩
  | false => exact q
end L2

namespace L2
open PySem PySem.Spec PyProof.Rows

noncomputable abbrev R2 := V → V → Hp → VK → Prop
noncomputable def OpR (X : Cx) (f : Value → Value → Sem Value) (r : R2) : Prop :=
  ∀ (pins : List (Addr × Obj)) (s : Shared) (σ : St) (H : Hp) (x y : V) (v u : Value) (Q : VK), Inv X pins σ H s → RelV x v → RelV y u → r x y H Q →
    wpAny (model X.prog X.w) X.A (f v u) (EP X pins σ Q) X.xe s
noncomputable def UnR (X : Cx) (f : Value → Sem Value) (r : V → Hp → VK → Prop) : Prop :=
  ∀ (pins : List (Addr × Obj)) (s : Shared) (σ : St) (H : Hp) (x : V) (v : Value) (Q : VK), Inv X pins σ H s → RelV x v → r x H Q →
    wpAny (model X.prog X.w) X.A (f v) (EP X pins σ Q) X.xe s
noncomputable def CallR (X : Cx) (f : Value) (r : List V → Hp → VK → Prop) : Prop :=
  ∀ (pins : List (Addr × Obj)) (s : Shared) (σ : St) (H : Hp) (xs : List V) (us : List Value) (Q : VK), Inv X pins σ H s → Vals xs us → r xs H Q →
    wpAny (model X.prog X.w) X.A (call f us) (EP X pins σ Q) X.xe s
noncomputable def TruR (X : Cx) (r : V → Hp → (Bool → Hp → Prop) → Prop) : Prop :=
  ∀ (pins : List (Addr × Obj)) (s : Shared) (σ : St) (H : Hp) (x : V) (v : Value) (Q : Bool → Hp → Prop), Inv X pins σ H s → RelV x v → r x H Q →
    wpAny (model X.prog X.w) X.A (truthy v) (TP X pins σ Q) X.xe s

noncomputable def tOp (r : R2) (ta tb : TE) : TE := fun σ H Q => ta σ H fun x H1 => tb σ H1 fun y H2 => r x y H2 Q
noncomputable def tUn (r : V → Hp → VK → Prop) (ta : TE) : TE := fun σ H Q => ta σ H fun x H1 => r x H1 Q
noncomputable def rI (C : Int → Int → Prop) (g : Int → Int → V) : R2 := fun x y H Q => ∃ i j, x = .int i ∧ y = .int j ∧ C i j ∧ Q (g i j) H
noncomputable def rI0 (g : Int → Int → V) : R2 := fun x y H Q => ∃ i j, x = .int i ∧ y = .int j ∧ Q (g i j) H
noncomputable def rU (g : Int → V) : V → Hp → VK → Prop := fun x H Q => ∃ i, x = .int i ∧ Q (g i) H

section
variable {X : Cx} {a b c : Expr} {ta tb tc : TE} {pos : Pos}

theorem binT (ha : PE X a ta) (hb : PE X b tb) {pins : List (Addr × Obj)} {s : Shared} {σ : St} {H : Hp} {R : V → V → Hp → Prop} (I : Inv X pins σ H s)
    (h : ta σ H fun x H1 => tb σ H1 fun y H2 => R x y H2) {Q : Value → Shared → Prop} {f : Value → Value → Sem Value}
    (hf : ∀ v u s2 x y H2, Inv X pins σ H2 s2 → RelV x v → RelV y u → R x y H2 → wpAny (model X.prog X.w) X.A (f v u) Q X.xe s2) :
    wpAny (model X.prog X.w) X.A (eval a X.env) (fun v s₁ => wpAny (model X.prog X.w) X.A (eval b X.env) (fun u s₂ => wpAny (model X.prog X.w) X.A (f v u) Q X.xe s₂) X.xe s₁) X.xe s := by
  refine thn (ha pins s σ H _ I h) fun v s1 hzz => ?_
  obtain ⟨x, H1, I1, r1, q1⟩ := hzz
  refine thn (hb pins s1 σ H1 _ I1 q1) fun u s2 hzz => ?_
  obtain ⟨y, H2, I2, r2, q2⟩ := hzz
  exact hf v u s2 x y H2 I2 r1 r2 q2

theorem pe_op {op : Operator} {r : R2} (ho : OpR X (binaryOp op) r) (ha : PE X a ta) (hb : PE X b tb) : PE X (.BinOp a op b pos) (tOp r ta tb) := by
  intro pins s σ H Q I h
  exact wpAny_BinOp (binT ha hb I h fun v u s2 x y H2 I2 rx ry q => ho pins s2 σ H2 x y v u Q I2 rx ry q)
theorem pe_un {op : UnaryOp} {r : V → Hp → VK → Prop} (ho : UnR X (unaryOp op) r) (ha : PE X a ta) : PE X (.UnaryOp op a pos) (tUn r ta) := by
  intro pins s σ H Q I h
  refine UnaryOp_ (thn (ha pins s σ H _ I h) fun v s1 hzz => ?_)
  obtain ⟨x, H1, I1, r1, q1⟩ := hzz
  exact ho pins s1 σ H1 x v Q I1 r1 q1
theorem opI {f : Value → Value → Sem Value} {C : Int → Int → Prop} {g : Int → Int → Int}
    (rule : ∀ (i j : Int) (t u : Tok) (s : Shared) (Q : Value → Shared → Prop) (E : Value → Shared → Prop), C i j → Q (.int (g i j) s.toks) { s with toks := s.toks + 1 } → wpAny (model X.prog X.w) X.A (f (.int i t) (.int j u)) Q E s) :
    OpR X f (rI C fun i j => .int (g i j)) := by
  intro pins s σ H x y v u Q I rx ry h
  obtain ⟨i, j, rfl, rfl, hc, q⟩ := h
  obtain ⟨t, rfl⟩ := rx
  obtain ⟨t', rfl⟩ := ry
  exact rule i j t t' s _ _ hc ⟨.int (g i j), H, I.tok _, ⟨_, rfl⟩, q⟩
theorem opI0 {f : Value → Value → Sem Value} {g : Int → Int → Int}
    (rule : ∀ (i j : Int) (t u : Tok) (s : Shared) (Q : Value → Shared → Prop) (E : Value → Shared → Prop), Q (.int (g i j) s.toks) { s with toks := s.toks + 1 } → wpAny (model X.prog X.w) X.A (f (.int i t) (.int j u)) Q E s) :
    OpR X f (rI0 fun i j => .int (g i j)) := by
  intro pins s σ H x y v u Q I rx ry h
  obtain ⟨i, j, rfl, rfl, q⟩ := h
  obtain ⟨t, rfl⟩ := rx
  obtain ⟨t', rfl⟩ := ry
  exact rule i j t t' s _ _ ⟨.int (g i j), H, I.tok _, ⟨_, rfl⟩, q⟩
theorem opB0 {f : Value → Value → Sem Value} {g : Int → Int → Bool}
    (rule : ∀ (i j : Int) (t u : Tok) (s : Shared) (Q : Value → Shared → Prop) (E : Value → Shared → Prop), Q (.bool (g i j)) s → wpAny (model X.prog X.w) X.A (f (.int i t) (.int j u)) Q E s) :
    OpR X f (rI0 fun i j => .bl (g i j)) := by
  intro pins s σ H x y v u Q I rx ry h
  obtain ⟨i, j, rfl, rfl, q⟩ := h
  obtain ⟨t, rfl⟩ := rx
  obtain ⟨t', rfl⟩ := ry
  exact rule i j t t' s _ _ ⟨.bl (g i j), H, I, rfl, q⟩

noncomputable def CDiv (i j : Int) : Prop := 0 < j ∧ j < 1073741824
noncomputable def CPow (i j : Int) : Prop := 0 ≤ j ∧ j ≤ 1000000 ∧ i.natAbs < 2 ^ 64
noncomputable def CMul (i j : Int) : Prop := (-(2 ^ 64) < i ∧ i < 2 ^ 64) ∨ (-(2 ^ 64) < j ∧ j < 2 ^ 64)
theorem CMul.ok {i j : Int} (h : CMul i j) : IntMulOk i j := by
  rcases h with ⟨h1, h2⟩ | ⟨h1, h2⟩
  · exact .of_left (intBits_le_64 h1 h2)
  · exact .of_right (intBits_le_64 h1 h2)
theorem two_pow_nn (k : Nat) : (0 : Int) ≤ 2 ^ k := by
  rw [two_pow_cast]
  exact Int.natCast_nonneg _

theorem op_add : OpR X (binaryOp .Add) (rI0 fun i j => .int (i + j)) := opI0 fun _ _ _ _ _ _ _ q => add_int q
theorem op_sub : OpR X (binaryOp .Sub) (rI0 fun i j => .int (i - j)) := opI0 fun _ _ _ _ _ _ _ q => sub_int q
theorem op_mul : OpR X (binaryOp .Mult) (rI CMul fun i j => .int (i * j)) := opI fun _ _ _ _ _ _ _ hc q => mul_int q hc.ok
theorem op_fdiv : OpR X (binaryOp .FloorDiv) (rI CDiv fun i j => .int (i / j)) := opI fun i j _ _ _ _ _ hc q => by
  have h1 : (0 : Int) < j := hc.1
  have h2 : j < 1073741824 := hc.2
  exact floordiv_int (by omega) (by rw [Int.fdiv_eq_ediv_of_nonneg i (by omega)]; exact q) (.inl (PyProof.noPylong_small (by omega)))
theorem op_mod : OpR X (binaryOp .Mod) (rI (fun _ j => 0 < j) fun i j => .int (i % j)) := opI fun i j _ _ _ _ _ hc q => by
  have h1 : (0 : Int) < j := hc
  exact mod_int' (by omega) (by rw [Int.fmod_eq_emod_of_nonneg i (by omega)]; exact q)
theorem op_shl : OpR X (binaryOp .LShift) (rI CPow fun i j => .int (i * 2 ^ j.toNat)) := opI fun _ _ _ _ _ _ _ hc q => lshift_int_small hc.1 hc.2.1 hc.2.2 q
theorem op_shr : OpR X (binaryOp .RShift) (rI (fun _ j => 0 ≤ j) fun i j => .int (i / 2 ^ j.toNat)) := opI fun i j _ _ _ _ _ hc q =>
  rshift_int hc (by rw [Int.fdiv_eq_ediv_of_nonneg i (two_pow_nn _)]; exact q)
theorem op_and : OpR X (binaryOp .BitAnd) (rI0 fun i j => .int (Builtin.bitAnd i j)) := opI0 fun _ _ _ _ _ _ _ q => and_int q
theorem op_or : OpR X (binaryOp .BitOr) (rI0 fun i j => .int (Builtin.bitOr i j)) := opI0 fun _ _ _ _ _ _ _ q => or_int q
theorem op_xor : OpR X (binaryOp .BitXor) (rI0 fun i j => .int (Builtin.bitXor i j)) := opI0 fun _ _ _ _ _ _ _ q => xor_int q

theorem unI {f : Value → Sem Value} {g : Int → Int}
    (rule : ∀ (i : Int) (t : Tok) (s : Shared) (Q : Value → Shared → Prop) (E : Value → Shared → Prop), Q (.int (g i) s.toks) { s with toks := s.toks + 1 } → wpAny (model X.prog X.w) X.A (f (.int i t)) Q E s) :
    UnR X f (rU fun i => .int (g i)) := by
  intro pins s σ H x v Q I rx h
  obtain ⟨i, rfl, q⟩ := h
  obtain ⟨t, rfl⟩ := rx
  exact rule i t s _ _ ⟨.int (g i), H, I.tok _, ⟨_, rfl⟩, q⟩
theorem un_neg : UnR X (unaryOp .USub) (rU fun i => .int (-i)) := unI fun _ _ _ _ _ q => neg_int q
end
noncomputable def scal : V → V → Bool
  | .non, .non => true | .non, .int _ => true | .int _, .non => true | .non, .bl _ => true | .bl _, .non => true | .non, .str _ => true | .str _, .non => true
  | .int _, .int _ => true | .bl _, .bl _ => true | .str _, .str _ => true | .byt _, .byt _ => true
  | .int _, .str _ => true | .str _, .int _ => true | .bl _, .str _ => true | .str _, .bl _ => true
  | _, _ => false
noncomputable def rEq : R2 := fun x y H Q => scal x y = true ∧ Q (.bl (decide (x = y))) H
noncomputable def rNe : R2 := fun x y H Q => scal x y = true ∧ Q (.bl (!decide (x = y))) H

theorem dec_int {i j : Int} : decide (V.int i = V.int j) = (i == j) := by
  rw [Bool.eq_iff_iff]
  simp
theorem dec_bl {i j : Bool} : decide (V.bl i = V.bl j) = (i == j) := by
  rw [Bool.eq_iff_iff]
  simp
theorem dec_str {i j : Str} : decide (V.str i = V.str j) = (i == j) := by
  rw [Bool.eq_iff_iff]
  simp
theorem dec_byt {i j : Array UInt8} : decide (V.byt i = V.byt j) = (i.toList == j.toList) := by
  rw [Bool.eq_iff_iff]
  cases i
  cases j
  simp

section
variable {X : Cx} {a b c : Expr} {ta tb tc : TE} {pos : Pos}
theorem fin_bl {pins : List (Addr × Obj)} {σ : St} {H : Hp} {s : Shared} {Q : VK} {k k' : Bool} (I : Inv X pins σ H s) (q : Q (.bl k) H) (e : k = k') : EP X pins σ Q (.bool k') s := by
  subst e
  exact ⟨.bl k, H, I, rfl, q⟩
theorem op_eq : OpR X (compareOp .Eq) rEq := by
  intro pins s σ H x y v u Q I rx ry h
  obtain ⟨hs, q⟩ := h
  cases x with
  | non =>
    cases rx
    cases y with
    | non => cases ry; exact PySem.EqNone.eq_none_none (fin_bl I q (by simp))
    | bl j => cases ry; exact PySem.EqNone.eq_none_bool (fin_bl I q (by simp))
    | int j => obtain ⟨t', rfl⟩ := ry; exact PySem.EqNone.eq_none_int (fin_bl I q (by simp))
    | str j => obtain ⟨t', rfl⟩ := ry; exact PySem.EqNone.eq_none_str (fin_bl I q (by simp))
    | _ => exact absurd (show false = true from hs) Bool.false_ne_true
  | bl i =>
    cases rx
    cases y with
    | non => cases ry; exact PySem.EqNone.eq_bool_none (fin_bl I q (by simp))
    | bl j => cases ry; exact eq_bool (fin_bl I q dec_bl)
    | str j => obtain ⟨t', rfl⟩ := ry; exact PySem.EqMixed.eq_bool_str (fin_bl I q (by simp))
    | _ => exact absurd (show false = true from hs) Bool.false_ne_true
  | int i =>
    obtain ⟨t, rfl⟩ := rx
    cases y with
    | non => cases ry; exact PySem.EqNone.eq_int_none (fin_bl I q (by simp))
    | int j => obtain ⟨t', rfl⟩ := ry; exact eq_int (fin_bl I q dec_int)
    | str j => obtain ⟨t', rfl⟩ := ry; exact PySem.EqMixed.eq_int_str (fin_bl I q (by simp))
    | _ => exact absurd (show false = true from hs) Bool.false_ne_true
  | str i =>
    obtain ⟨t, rfl⟩ := rx
    cases y with
    | non => cases ry; exact PySem.EqNone.eq_str_none (fin_bl I q (by simp))
    | bl j => cases ry; exact PySem.EqMixed.eq_str_bool (fin_bl I q (by simp))
    | int j => obtain ⟨t', rfl⟩ := ry; exact PySem.EqMixed.eq_str_int (fin_bl I q (by simp))
    | str j => obtain ⟨t', rfl⟩ := ry; exact eq_str (fin_bl I q dec_str)
    | _ => exact absurd (show false = true from hs) Bool.false_ne_true
  | byt i =>
    obtain ⟨t, rfl⟩ := rx
    cases y with
    | byt j => obtain ⟨t', rfl⟩ := ry; exact PySem.W.eq_bytes (fin_bl I q dec_byt)
    | _ => exact absurd (show false = true from hs) Bool.false_ne_true
  | _ => cases y <;> exact absurd (show false = true from hs) Bool.false_ne_true
theorem op_ne : OpR X (compareOp .NotEq) rNe := by
  intro pins s σ H x y v u Q I rx ry h
  obtain ⟨hs, q⟩ := h
  cases x with
  | non =>
    cases rx
    cases y with
    | non => cases ry; exact PySem.EqNone.ne_none_none (fin_bl I q (by simp))
    | bl j => cases ry; exact PySem.EqNone.ne_none_bool (fin_bl I q (by simp))
    | int j => obtain ⟨t', rfl⟩ := ry; exact PySem.EqNone.ne_none_int (fin_bl I q (by simp))
    | str j => obtain ⟨t', rfl⟩ := ry; exact PySem.EqNone.ne_none_str (fin_bl I q (by simp))
    | _ => exact absurd (show false = true from hs) Bool.false_ne_true
  | bl i =>
    cases rx
    cases y with
    | non => cases ry; exact PySem.EqNone.ne_bool_none (fin_bl I q (by simp))
    | bl j => cases ry; exact ne_bool (fin_bl I q (congrArg not dec_bl))
    | str j => obtain ⟨t', rfl⟩ := ry; exact PySem.EqMixed.ne_bool_str (fin_bl I q (by simp))
    | _ => exact absurd (show false = true from hs) Bool.false_ne_true
  | int i =>
    obtain ⟨t, rfl⟩ := rx
    cases y with
    | non => cases ry; exact PySem.EqNone.ne_int_none (fin_bl I q (by simp))
    | int j => obtain ⟨t', rfl⟩ := ry; exact ne_int (fin_bl I q (congrArg not dec_int))
    | str j => obtain ⟨t', rfl⟩ := ry; exact PySem.EqMixed.ne_int_str (fin_bl I q (by simp))
    | _ => exact absurd (show false = true from hs) Bool.false_ne_true
  | str i =>
    obtain ⟨t, rfl⟩ := rx
    cases y with
    | non => cases ry; exact PySem.EqNone.ne_str_none (fin_bl I q (by simp))
    | bl j => cases ry; exact PySem.EqMixed.ne_str_bool (fin_bl I q (by simp))
    | int j => obtain ⟨t', rfl⟩ := ry; exact PySem.EqMixed.ne_str_int (fin_bl I q (by simp))
    | str j => obtain ⟨t', rfl⟩ := ry; exact ne_str (fin_bl I q (congrArg not dec_str))
    | _ => exact absurd (show false = true from hs) Bool.false_ne_true
  | byt i =>
    obtain ⟨t, rfl⟩ := rx
    cases y with
    | byt j => obtain ⟨t', rfl⟩ := ry; exact PySem.W.ne_bytes (fin_bl I q (congrArg not dec_byt))
    | _ => exact absurd (show false = true from hs) Bool.false_ne_true
  | _ => cases y <;> exact absurd (show false = true from hs) Bool.false_ne_true

theorem op_lt : OpR X (compareOp .Lt) (rI0 fun i j => .bl (decide (i < j))) := opB0 fun _ _ _ _ _ _ _ q => lt_int q
theorem op_gt : OpR X (compareOp .Gt) (rI0 fun i j => .bl (decide (j < i))) := opB0 fun _ _ _ _ _ _ _ q => gt_int q
theorem pe_cmpR {op : CmpOp} {r : R2} (ho : OpR X (compareOp op) r) (ha : PE X a ta) (hb : PE X b tb) (hm : behindInMarks op b = false) : PE X (.Compare a [op] [b] pos) (tOp r ta tb) := by
  intro pins s σ H Q I h
  exact wpAny_Compare1 (binT ha hb I h fun v u s2 x y H2 I2 rx ry q => ho pins s2 σ H2 x y v u Q I2 rx ry q) hm
noncomputable def tTest (t : TE) : TT := fun σ H Q => t σ H fun x H' => ∃ k, x = .bl k ∧ Q k H'
theorem pt_cmpR {op : CmpOp} {r : R2} (ho : OpR X (compareOp op) r) (ha : PE X a ta) (hb : PE X b tb) (hm : behindInMarks op b = false) : PT X (.Compare a [op] [b] pos) (tTest (tOp r ta tb)) := by
  intro pins s σ H Q I h
  refine wpAny_isTrue_Compare1 (thn (ha pins s σ H _ I h) fun v s1 hzz => ?_) hm
  obtain ⟨x, H1, I1, r1, q1⟩ := hzz
  refine thn (hb pins s1 σ H1 _ I1 q1) fun u s2 hzz => ?_
  obtain ⟨y, H2, I2, r2, q2⟩ := hzz
  refine thn (ho pins s2 σ H2 x y v u _ I2 r1 r2 q2) fun c s3 hzz => ?_
  obtain ⟨z, H3, I3, r3, k, e, q3⟩ := hzz
  subst e
  cases r3
  exact wpAny_truthy_bool ⟨H3, I3, q3⟩
noncomputable def TruV (K : PySem.W.Frag) (x : V) (H : Hp) (k : Bool) : Prop :=
  match x with
  | .non => k = false
  | .bl b => k = b
  | .int i => k = (i != 0)
  | .str y => y.length ≤ sizeLine ∧ k = ((y.length : Int) != 0)
  | .byt y => y.size ≤ sizeLine ∧ k = ((y.size : Int) != 0)
  | .ref p => (∃ xs, SqL K H p xs ∧ k = !xs.isEmpty) ∨ (∃ xs, SqT K H p xs ∧ k = !xs.isEmpty) ∨ ∃ kvs, H p = some (.dK kvs) ∧ k = !kvs.isEmpty
  | _ => False
theorem isEmpty_kv {κ : Type} {kvs : List (κ × V)} {vs : List (κ × Value)} (r : KV kvs vs) : (!vs.isEmpty) = !kvs.isEmpty := by
  cases r <;> rfl
theorem isEmpty_of {xs : List V} {its : List Value} (r : Vals xs its) : (!its.toArray.isEmpty) = !xs.isEmpty := by
  cases r <;> simp
theorem line63 : (sizeLine : Nat) < 2 ^ 63 := by rw [sizeLine_eq]; decide
theorem tru_ok : TruR X (fun x H Q => ∃ k, TruV X.K x H k ∧ Q k H) := by
  intro pins s σ H x v Q I rx h
  obtain ⟨k, e, q⟩ := h
  have hl := line63
  have hs : sizeLine = 16777216 := sizeLine_eq
  cases x with
  | non =>
    cases rx
    have e' : k = false := e
    subst e'
    exact truthy_none ⟨H, I, q⟩
  | bl b =>
    cases rx
    have e' : k = b := e
    subst e'
    exact wpAny_truthy_bool ⟨H, I, q⟩
  | int i =>
    obtain ⟨t, rfl⟩ := rx
    have e' : k = (i != 0) := e
    subst e'
    exact PySem.P.truthy_int ⟨H, I, q⟩
  | str y =>
    obtain ⟨t, rfl⟩ := rx
    obtain ⟨hy, e'⟩ : y.length ≤ sizeLine ∧ k = ((y.length : Int) != 0) := e
    subst e'
    exact PySem.P.truthy_str (by omega) ⟨H, I.tok _, q⟩
  | byt y =>
    obtain ⟨t, rfl⟩ := rx
    obtain ⟨hy, e'⟩ : y.size ≤ sizeLine ∧ k = ((y.size : Int) != 0) := e
    subst e'
    exact PySem.W.truthy_bytes (by omega) ⟨H, I.tok _, q⟩
  | ref p =>
    cases rx
    have e' : (∃ xs, SqL X.K H p xs ∧ k = !xs.isEmpty) ∨ (∃ xs, SqT X.K H p xs ∧ k = !xs.isEmpty) ∨ ∃ kvs, H p = some (.dK kvs) ∧ k = !kvs.isEmpty := e
    rcases e' with ⟨xs, hx, e'⟩ | ⟨xs, hx, e'⟩ | ⟨kvs, hx, e'⟩
    · subst e'
      obtain ⟨its, r, pl, hz⟩ := I.list hx
      have hlen := r.length
      exact wpAny_truthy_list pl.isList (by simp only [List.size_toArray]; omega) ⟨H, I.tok _, by rw [isEmpty_of r]; exact q⟩
    · subst e'
      obtain ⟨its, r, pl, hz⟩ := I.tuple hx
      have hlen := r.length
      exact truthy_tuple pl (by simp only [List.size_toArray]; omega) ⟨H, I.tok _, by rw [isEmpty_of r]; exact q⟩
    · subst e'
      obtain ⟨hz, hS, vs, r, m⟩ : kvs.length ≤ sizeLine ∧ (p == sysModules) = false ∧ ∃ vs, KV kvs vs ∧ s.heap.DictOf (mixKind X.prog X.w) p vs := I.hok p _ hx
      have hlen : kvs.length = vs.length := Paired.length r
      exact wpAny_truthy_dict hS m (by omega) ⟨H, I.tok _, by rw [isEmpty_kv r]; exact q⟩
  | _ => exact (show False from e).elim
theorem pt_truth (ha : PE X a ta) (he : ∀ whole, isTrue a X.env whole = (do let v ← whole; standAt a.pos; holding [v] (truthy v))) :
    PT X a (fun σ H Q => ta σ H fun x H' => ∃ k, TruV X.K x H' k ∧ Q k H') := by
  intro pins s σ H Q I h
  refine isTrue_plain (thn (ha pins s σ H _ I h) fun v s1 hzz => ?_) (he _)
  obtain ⟨x, H1, I1, r1, q1⟩ := hzz
  exact tru_ok pins s1 σ H1 x v Q I1 r1 q1

theorem op_add_str : OpR X (binaryOp .Add) (fun x y H Q => ∃ i j, x = .str i ∧ y = .str j ∧ i.length + j.length ≤ sizeLine ∧ Q (.str (i ++ j)) H) := by
  intro pins s σ H x y v u Q I rx ry h
  obtain ⟨i, j, rfl, rfl, hz, q⟩ := h
  obtain ⟨t, rfl⟩ := rx
  obtain ⟨t', rfl⟩ := ry
  exact add_str (fun t' tk => ⟨.str (i ++ j), H, I.tok _, ⟨_, rfl⟩, q⟩) hz
theorem vals1 {x : V} {us : List Value} (r : Vals [x] us) : ∃ u, us = [u] ∧ RelV x u := by
  cases r with
  | cons r1 r2 => cases r2; exact ⟨_, rfl, r1⟩
theorem call_ord : CallR X (.builtin "ord") (fun xs H Q => ∃ x, xs = [.str x] ∧ x.length = 1 ∧ Q (.int (x.cps.getD 0 0 : Nat)) H) := by
  intro pins s σ H xs us Q I r h
  obtain ⟨x, rfl, hz, q⟩ := h
  obtain ⟨u, rfl, t, rfl⟩ := vals1 r
  exact ord_of_one hz ⟨.int _, H, I.tok _, ⟨_, rfl⟩, q⟩
end
end L2

namespace L2
open PySem PySem.Spec PyProof.Rows

section
variable {prog : Program} {w : World} {A : Around} {E : Value → Shared → Prop} {s : Shared} {K : PySem.W.Frag} {x dx C f : Addr} {mA : Str → Option Value} {name : Str} {v : Value}

end

section
variable {P : Program} {w : World} {H H' : Hp} {h h' : Heap} {a C dx : Addr} {fs fs' : List (Str × V)}
end

section
variable {X : Cx} {pins : List (Addr × Obj)} {σ : St} {H : Hp} {s : Shared} {a C dx : Addr} {fs : List (Str × V)} {f : Str} {v : V} {A : Around} {E : Value → Shared → Prop}

end

section
variable {X : Cx} {o e value : Expr} {f : Str} {pos pos' tpos : Pos} {ta tv : TE}
end

section
variable {X : Cx} {pins : List (Addr × Obj)} {σ : St} {H : Hp} {s : Shared} {A : Around} {E : Value → Shared → Prop} {Q : Value → Shared → Prop} {c : Value} {b : Bool}
end
end L2

namespace L2
open PySem PySem.Spec PyProof.Rows

structure Room (k : Nat) (A : Around) : Prop where
  hd : A.handled = none
  dp : A.depth + 3 * k + 5 < recursionLimit
  un : A.units + 16 * k + 200 < cLine
theorem Room.mono {j k : Nat} {A : Around} (r : Room k A) (h : j ≤ k) : Room j A := ⟨r.hd, by have := r.dp; omega, by have := r.un; omega⟩
theorem Room.deeper {k : Nat} {A : Around} (r : Room (k + 1) A) (env : Env) : Room k (A.deeper env) :=
  ⟨r.hd, by have := r.dp; show A.depth + 1 + 3 * k + 5 < _; omega, by have := r.un; show A.units + 3 + 16 * k + 200 < _; omega⟩
theorem Room.depth {k : Nat} {A : Around} (r : Room k A) : A.depth < recursionLimit := by have := r.dp; omega
noncomputable def tNil : TA := fun _ H Q => Q [] H
noncomputable def tCons (ta : TE) (tr : TA) : TA := fun σ H Q => ta σ H fun x H1 => tr σ H1 fun xs H2 => Q (x :: xs) H2
section
variable {X : Cx} {e : Expr} {es : List Expr} {te : TE} {t : TA} {pos : Pos}
theorem pa_nil : PA X [] tNil := fun _ _ _ _ H Q I h => Calls.spliced_nil ⟨[], H, I, .nil, h⟩
theorem pa_cons (ha : PE X e te) (hr : PA X es t) (hs : starEach (e :: es) X.env = (false, eval e X.env) :: starEach es X.env) : PA X (e :: es) (tCons te t) := by
  intro pos pins s σ H Q I h
  rw [hs]
  show wpAny _ _ (spliced ((false, eval e X.env) :: backTo pos (starEach es X.env))) _ _ s
  refine Calls.spliced_cons (thn (ha pins s σ H _ I h) fun u s1 hzz => ?_)
  obtain ⟨x, H1, I1, r1, q1⟩ := hzz
  refine thn (hr pos pins s1 σ H1 _ I1 q1) fun us s2 hzz => ?_
  obtain ⟨xs, H2, I2, r2, q2⟩ := hzz
  exact ⟨x :: xs, H2, I2, .cons r1 r2, q2⟩
noncomputable def tTup (t : TA) : TE := fun σ H Q => t σ H fun xs H1 => xs.length ≤ sizeLine ∧ ∀ p, H1 p = none → Q (.ref p) (upd H1 p (.tup xs))
noncomputable def tLst (t : TA) : TE := fun σ H Q => t σ H fun xs H1 => xs.length ≤ sizeLine ∧ ∀ p, H1 p = none → Q (.ref p) (upd H1 p (.lst xs))
theorem pe_tup {x1} (h : PA X es t) : PE X (.Tuple es x1 pos) (tTup t) := by
  intro pins s σ H Q I hq
  refine wpAny_Tuple_spliced (thn (h pos pins s σ H _ I hq) fun us s1 hzz => ?_)
  obtain ⟨xs, H1, I1, r, z, q⟩ := hzz
  refine ⟨r.length ▸ z, ?_⟩
  have hf : H1 s1.heap.objs.size = none := I1.hok.fresh (Nat.le_refl _)
  refine ⟨.ref s1.heap.objs.size, upd H1 s1.heap.objs.size (.tup xs), I1.laid (t' := s1.toks) (fun b u e => Heap.get?_push_of_some _ e) (Nat.le_refl _) ?_, rfl, q _ hf⟩
  exact ⟨z, us, r, ⟨_, Heap.get?_push_size _ rfl, rfl, _, rfl⟩⟩
theorem pe_lst (h : PA X es t) : PE X (.List es pos) (tLst t) := by
  intro pins s σ H Q I hq
  refine wpAny_List_spliced (thn (h pos pins s σ H _ I hq) fun us s1 hzz => ?_)
  obtain ⟨xs, H1, I1, r, z, q⟩ := hzz
  refine ⟨r.length ▸ z, ?_⟩
  have hf : H1 s1.heap.objs.size = none := I1.hok.fresh (Nat.le_refl _)
  refine ⟨.ref s1.heap.objs.size, upd H1 s1.heap.objs.size (.lst xs), I1.laid (t' := s1.toks) (fun b u e => Heap.get?_push_of_some _ e) (Nat.le_refl _) ?_, rfl, q _ hf⟩
  exact ⟨z, us, 0, r, Heap.get?_push_size _ rfl⟩
end
noncomputable abbrev Sp := List V → Hp → VK → XK → Prop
noncomputable abbrev CXT := List Env → Hp → Shared → XK → Value → Shared → Prop
structure Env0 (P : Program) (w : World) (K : PySem.W.Frag) (mg : Str → Option Value) (base : Heap) (A : Around) (outer : List Env) (s : Shared) (H : Hp) : Prop where
  frames : A.frames = some outer
  mod : Mod K mg base
  bs : ∀ b o, base.get? b = some o → s.heap.get? b = some o ∧ H b = none
  bsz : base.objs.size ≤ s.heap.objs.size
  funs : s.heap.FunFrames base outer
  frf : ∀ b ∈ frs outer, H b = none
  hok : HOk P w H s.heap
  bare : AllBare s.gens
noncomputable def CE (outer : List Env) (P : Program) (w : World) (H : Hp) (s : Shared) (Q : VK) (u : Value) (s' : Shared) : Prop :=
  ∃ v H', s'.os = s.os ∧ AllBare s'.gens ∧ Un (frs outer) [] H H' s.heap s'.heap ∧ HOk P w H' s'.heap ∧ RelV v u ∧ Q v H'
noncomputable def CR (CX : CXT) (outer : List Env) (P : Program) (w : World) (H : Hp) (s : Shared) (Q : VK) (E : XK) (r : Result) (s' : Shared) : Prop :=
  match r with
  | .ok (.ret u) => CE outer P w H s Q u s'
  | .ok _ => False
  | .error e => CX outer H s E e s'
structure FnOk (P : Program) (w : World) (K : PySem.W.Frag) (mg : Str → Option Value) (base : Heap) (CX : CXT) (k : Nat) (f : Addr) (fd : FuncData) (ps : List Str) (sp : Sp) : Prop where
  len : ∀ vs H Q E, sp vs H Q E → vs.length = ps.length
  run : ∀ (A : Around) (outer : List Env) (s : Shared) (H : Hp) (args : Args) (us : List Value) (vs : List V) (Q : VK) (E : XK), Room k A → Env0 P w K mg base A outer s H → BindsTo s fd args (ps.zip us) → Vals vs us → sp vs H Q E →
    codeAny (model P w) A (.call (.ref f) args) (CR CX outer P w H s Q E) s
theorem FnOk.mono {P : Program} {w : World} {K : PySem.W.Frag} {mg : Str → Option Value} {base : Heap} {CX : CXT} {j k : Nat} {f : Addr} {fd : FuncData} {ps : List Str} {sp : Sp} (F : FnOk P w K mg base CX j f fd ps sp) (h : j ≤ k) :
    FnOk P w K mg base CX k f fd ps sp := ⟨F.len, fun A outer s H args us vs Q E hr => F.run A outer s H args us vs Q E (hr.mono h)⟩
section
variable {X : Cx} {pins : List (Addr × Obj)} {σ : St} {H : Hp} {s s' : Shared}
theorem Inv.env0 (I : Inv X pins σ H s) : Env0 X.prog X.w X.K X.mg X.base X.A X.stack s H :=
  ⟨I.ok.frames, I.ok.mod, I.bs, Nat.le_trans I.ok.bsz I.sz, I.stack, I.stkFree, I.hok, I.bare⟩
theorem Inv.after {Q : VK} {u : Value} (I : Inv X pins σ H s) (h : CE X.stack X.prog X.w H s Q u s') : EP X pins σ Q u s' := by
  obtain ⟨v, H', os, bare, un, hok, r, q⟩ := h
  obtain ⟨hh, g, d, t, os'⟩ := s'
  obtain rfl : os' = s.os := os
  exact ⟨v, H', I.call (h' := hh) (g' := g) (d' := d) (t' := t) (ch := []) un hok bare (fun b z => absurd z (by simp)), r, q⟩
end
noncomputable def tCall (sp : Sp) (dvs : List V) (E : XK) (t : TA) : TE := fun σ H Q => t σ H fun vs H1 => sp (vs ++ dvs) H1 Q E
noncomputable def Binds (K : PySem.W.Frag) (fd : FuncData) (ps : List Str) (ds : List Value) : Prop :=
  ∀ (s : Shared) (us : List Value), K.In s.heap → (us ++ ds).length = ps.length → BindsTo s fd ⟨us, []⟩ (ps.zip (us ++ ds))
theorem Binds.all {K : PySem.W.Frag} {fd : FuncData} {ps : List Str} (h : ∀ us : List Value, us.length = ps.length → bindArgs fd ⟨us, []⟩ = pure (ps.zip us)) : Binds K fd ps [] := fun s us _ hl => by
  rw [List.append_nil] at hl ⊢
  exact .of_eq (h us hl)
noncomputable def Passes (CX : CXT) (X : Cx) (E : XK) : Prop := ∀ (pins : List (Addr × Obj)) (σ : St) (H : Hp) (s : Shared) (e : Value) (s' : Shared), Inv X pins σ H s → CX X.stack H s E e s' → X.xe e s'

section
variable {X : Cx} {CX : CXT} {k : Nat} {f C : Addr} {fd : FuncData} {ps : List Str} {sp : Sp} {dvs : List V} {ds : List Value} {E : XK} {x m : Str} {p pos apos : Pos} {e o : Expr} {es : List Expr} {ta : TE} {t : TA}
theorem run_fn {pins : List (Addr × Obj)} {σ : St} {H : Hp} {s : Shared} {Q : VK} {us : List Value} {vs : List V} (F : FnOk X.prog X.w X.K X.mg X.base CX k f fd ps sp) (hr : Room k X.A) (hb : Binds X.K fd ps ds) (hd : Vals dvs ds) (hx : Passes CX X E)
    (I : Inv X pins σ H s) (r : Vals vs us) (h : sp (vs ++ dvs) H Q E) : wpAny (model X.prog X.w) X.A (call (.ref f) us) (EP X pins σ Q) X.xe s := by
  have r2 : Vals (vs ++ dvs) (us ++ ds) := r.append hd
  have hl : (us ++ ds).length = ps.length := by rw [← r2.length]; exact F.len _ _ _ _ h
  refine wpAny_call (codeAny_mono (F.run X.A X.stack s H ⟨us, []⟩ (us ++ ds) (vs ++ dvs) Q E hr I.env0 (hb s us I.kIn hl) r2 h) fun r s' hq => ?_)
  cases r with
  | error e => exact hx pins σ H s e s' I hq
  | ok fl =>
    cases fl with
    | ret u => exact I.after hq
    | next => exact False.elim hq
    | brk => exact False.elim hq
    | cont => exact False.elim hq

theorem pe_call (F : FnOk X.prog X.w X.K X.mg X.base CX k f fd ps sp) (hr : Room k X.A) (hg : Gl X x) (hm : X.mg x = some (.ref f)) (hk : PySem.W.keepIn X.K (.ref f) = true) (hb : Binds X.K fd ps ds) (hd : Vals dvs ds) (hx : Passes CX X E)
    (ha : PA X (e :: es) t) (hdb : (x == ("__debug__" : Str)) = false) (he : starEach (e :: es) X.env = (false, eval e X.env) :: starEach es X.env) (hpl : (backTo pos (starEach es X.env)).any (·.1) = false) :
    PE X (.Call (.Name x p) (e :: es) [] pos) (tCall sp dvs E t) := by
  intro pins s σ H Q I h
  refine wpAny_Call_Name_kw (ld_glob I hg hm ?_ hdb)
  refine PySem.W.callWith_K (h₀ := X.base) I.ok.mod.kin hk (thn (ha pos pins s σ H _ I h) fun us s1 hzz => ?_) he hpl
  obtain ⟨vs, H1, I1, r, q⟩ := hzz
  refine ⟨I1.kIn, ?_⟩
  exact run_fn F hr hb hd hx I1 r q
end

section
variable {X : Cx} {CX : CXT} {k : Nat} {f C : Addr} {fd : FuncData} {ps ks : List Str} {sp : Sp} {E : XK} {x m : Str} {p pos apos kpos : Pos} {e o : Expr} {es : List Expr} {kws : List Keyword} {te ta : TE} {t tk : TA} {nm : Option Str}
variable {g : List Value → List Value → List Value} {gV : List V → List V → List V}
end
structure FnScope (N P : List Str) (sc : Scope) : Prop where
  kind : sc.kind = .function
  co : sc.isCoroutine = false
  gen : sc.isGenerator = false
  nd : N.Nodup
  pre : N.take P.length = P
  par : ∀ x ∈ P, sc.names.lookup x = some .local ∨ sc.names.lookup x = some .cell
  nofree : ∀ y ∈ sc.names, y.2 ≠ .free

theorem bindL_out {kindOf : Str → Option NameKind} {x : Str} : ∀ {binds : List (Str × Value)} {m : Str → Option Value}, (∀ v, (x, v) ∉ binds) → bindL kindOf binds m x = m x
  | [], _, _ => rfl
  | (n, v) :: r, m, h => by
    unfold bindL
    rw [bindL_out fun w hw => h w (List.mem_cons_of_mem _ hw)]
    split
    · have : x ≠ n := by rintro rfl; exact h v List.mem_cons_self
      simp [this]
    · rfl
theorem bindC_out {kindOf : Str → Option NameKind} {x : Str} : ∀ {binds : List (Str × Value)} {m : Str → Option Value}, (∀ v, (x, v) ∉ binds) → bindC kindOf binds m x = m x
  | [], _, _ => rfl
  | (n, v) :: r, m, h => by
    unfold bindC
    rw [bindC_out fun w hw => h w (List.mem_cons_of_mem _ hw)]
    split
    · rfl
    · have : x ≠ n := by rintro rfl; exact h v List.mem_cons_self
      simp [this]
theorem bindL_get {kindOf : Str → Option NameKind} {x : Str} {v : Value} : ∀ {P : List Str} {vs : List Value} {i : Nat} {m : Str → Option Value}, P.Nodup → P[i]? = some x → vs[i]? = some v → kindOf x = some .local →
    bindL kindOf (P.zip vs) m x = some v
  | [], _, _, _, _, h, _, _ => by simp at h
  | _ :: _, [], _, _, _, _, h, _ => by simp at h
  | p :: P, w :: vs, 0, m, nd, h1, h2, hk => by
    simp at h1 h2; subst h1; subst h2
    show bindL kindOf ((p, w) :: P.zip vs) m p = _
    unfold bindL
    rw [bindL_out fun v hv => (List.nodup_cons.mp nd).1 (List.of_mem_zip hv).1, if_pos hk]
    simp
  | p :: P, w :: vs, i + 1, m, nd, h1, h2, hk => by
    show bindL kindOf ((p, w) :: P.zip vs) m x = _
    unfold bindL
    exact bindL_get (i := i) (List.nodup_cons.mp nd).2 (by simpa using h1) (by simpa using h2) hk
theorem bindC_get {kindOf : Str → Option NameKind} {x : Str} {v : Value} : ∀ {P : List Str} {vs : List Value} {i : Nat} {m : Str → Option Value}, P.Nodup → P[i]? = some x → vs[i]? = some v → kindOf x ≠ some .local →
    bindC kindOf (P.zip vs) m x = some v
  | [], _, _, _, _, h, _, _ => by simp at h
  | _ :: _, [], _, _, _, _, h, _ => by simp at h
  | p :: P, w :: vs, 0, m, nd, h1, h2, hk => by
    simp at h1 h2; subst h1; subst h2
    show bindC kindOf ((p, w) :: P.zip vs) m p = _
    unfold bindC
    rw [bindC_out fun v hv => (List.nodup_cons.mp nd).1 (List.of_mem_zip hv).1, if_neg hk]
    simp
  | p :: P, w :: vs, i + 1, m, nd, h1, h2, hk => by
    show bindC kindOf ((p, w) :: P.zip vs) m x = _
    unfold bindC
    exact bindC_get (i := i) (List.nodup_cons.mp nd).2 (by simpa using h1) (by simpa using h2) hk
noncomputable def start (N : List Str) (vs : List V) : St := vs.map some ++ List.replicate (N.length - vs.length) none
noncomputable def cxOf (CX : CXT) (P : Program) (w : World) (K : PySem.W.Frag) (mg : Str → Option Value) (base : Heap) (N : List Str) (qual : Str) (scope : Scope) (f : Addr) (cd : Value) (A : Around) (outer : List Env) (s : Shared) (H : Hp) (E : XK) : Cx where
  prog := P
  w := w
  K := K
  mg := mg
  base := base
  A := A.deeper (envOfC qual scope s.heap.objs.size f cd)
  N := N
  s_0 := s
  H_0 := H
  env := envOfC qual scope s.heap.objs.size f cd
  outer := outer
  stack := envOfC qual scope s.heap.objs.size f cd :: outer
  ex := []
  calm := true
  fn := fun _ => true
  pn := []
  xe := fun e s' => wpAny (model P w) (A.deeper (envOfC qual scope s.heap.objs.size f cd)) (leaving (envOfC qual scope s.heap.objs.size f cd) e) (fun _ s'' => CX outer H s E e s'') (fun e' s'' => CX outer H s E e' s'') s'

theorem cell_has {sc : Scope} {n : Nat} {x : Str} (h : sc.names.lookup x = some .cell) : ∃ c, (cellsFrom n sc.names []).lookup x = some c := by
  have q := PySem.W.cellsFrom_some sc.names n [] (.inl h)
  exact Option.isSome_iff_exists.mp q

theorem inv_start {CX : CXT} {P : Program} {w : World} {K : PySem.W.Frag} {mg : Str → Option Value} {base : Heap} {N ps : List Str} {qual : Str} {scope : Scope} {f : Addr} {cd : Value} {A : Around} {outer : List Env} {s s1 : Shared} {H : Hp} {E : XK} {us : List Value} {vs : List V}
    (S : FnScope N ps scope) (hd : A.handled = none) (e0 : Env0 P w K mg base A outer s H) (hl : vs.length = ps.length) (r : Vals vs us)
    (x : InCallC s s.heap.objs.size (bindL (envOfC qual scope s.heap.objs.size f cd).kindOf (ps.zip us) fun _ => none) (cellsFrom (s.heap.objs.size + 1) scope.names []) (bindC (envOfC qual scope s.heap.objs.size f cd).kindOf (ps.zip us) fun _ => none) s1) :
    Inv (cxOf CX P w K mg base N qual scope f cd A outer s H E) [] (start N vs) H s1 := by
  have hpl : ps.length ≤ N.length := by have := congrArg List.length S.pre; rw [List.length_take] at this; omega
  obtain ⟨h1, tk, rfl, hk⟩ := x.done
  have noA : ∀ b : Addr, b ∉ (cxOf CX P w K mg base N qual scope f cd A outer s H E).ex := fun b z => absurd (show b ∈ ([] : List Addr) from z) (by simp)
  refine ⟨⟨e0.mod, S.kind, rfl, rfl, Nat.le_refl _, fun y z c h1 h2 => ?_, fun y hy => ?_, fun y c _ h => ?_, fun _ => hd, Around.frames_deeper e0.frames, .inr ⟨rfl, rfl⟩, fun b z => absurd z (noA b), e0.bs, e0.bsz, fun b _ _ => noA b, fun b z => absurd z (noA b), e0.funs, e0.frf⟩,
    rfl, e0.bare, Un.kept hk, ⟨_, x.toInCall.ns, fun i y v h1 h2 h3 => ?_⟩, fun y c h => ⟨_, x.cell y c h⟩, e0.hok.fresh (Nat.le_refl _), fun y c h => ?_, fun p hp => absurd (show p ∈ ([] : List (Addr × Obj)) from hp) (by simp), e0.hok.kept hk, ?_⟩
  · exact name_of_addr x.apart (PySem.mem_of_lookup h1) (PySem.mem_of_lookup h2)
  · have hy : scope.names.lookup y = some .cell ∨ scope.names.lookup y = some .free := hy
    rcases hy with hy | hy
    · exact cell_has hy
    · exact absurd rfl (S.nofree _ (PySem.mem_of_lookup hy))
  · exact Nat.le_of_lt (x.above y c (PySem.mem_of_lookup h))
  · have hi : i < vs.length := by
      unfold start at h2
      by_cases hi : i < vs.length
      · exact hi
      · rw [List.getElem?_append_right (by simpa using hi)] at h2
        rw [List.getElem?_replicate] at h2
        split at h2 <;> cases h2
    have ha : vs[i]? = some v := by
      unfold start at h2
      rw [List.getElem?_append_left (by simpa using hi), List.getElem?_map] at h2
      cases e : vs[i]? with
      | none => rw [e] at h2; cases h2
      | some a => rw [e] at h2; cases h2; rfl
    obtain ⟨u, hu, rv⟩ := r.get ha
    have hp : ps[i]? = some y := by
      rw [← S.pre, List.getElem?_take_of_lt (by omega)]; exact h1
    have ndP : ps.Nodup := by rw [← S.pre]; exact S.nd.sublist (List.take_sublist _ _)
    refine ⟨u, rv, ?_⟩
    rcases S.par y (List.mem_of_getElem? hp) with k | k
    · exact .inl ⟨k, bindL_get ndP hp hu k⟩
    · obtain ⟨c, e⟩ := cell_has (n := s.heap.objs.size + 1) k
      refine .inr ⟨.inl k, c, e, ?_⟩
      have q := x.cell y c e
      rw [bindC_get ndP hp hu (by show scope.names.lookup y ≠ _; rw [k]; decide)] at q
      exact q
  · exact e0.hok.fresh (Nat.le_of_lt (x.above y c (PySem.mem_of_lookup h)))
  · unfold start
    show _ = N.length
    rw [List.length_append, List.length_map, List.length_replicate]
    omega
theorem fn_of {CX : CXT} {P : Program} {w : World} {K : PySem.W.Frag} {mg : Str → Option Value} {base : Heap} {k : Nat} {f : Addr} {name qual : Str} {params : Arguments} {body : List Stmt} {scope : Scope} {dV kV doc pm cdv ct oc : Value} {an od : Option Addr}
    {osl : Array (Option Value)} {N ps : List Str} {sp : Sp} (lk : K.lookup f = some ⟨oc, od, .func (PySem.W.fnOf name qual params body scope dV kV doc pm an cdv ct), osl⟩) (hcd : PySem.W.codeIn K cdv qual = true) (S : FnScope N ps scope)
    (len : ∀ vs H Q E, sp vs H Q E → vs.length = ps.length)
    (hbody : ∀ (A : Around) (outer : List Env) (s : Shared) (H : Hp) (vs : List V) (Q : VK) (E : XK), Room k (A.deeper (envOfC qual scope s.heap.objs.size f cdv)) → sp vs H Q E →
      ∃ t, PSs (cxOf CX P w K mg base N qual scope f cdv A outer s H E) body t ∧ t { nx := fun _ H' => Q .non H', rt := Q } (start N vs) H) :
    FnOk P w K mg base CX (k + 1) f (PySem.W.fnOf name qual params body scope dV kV doc pm an cdv ct) ps sp := by
  refine ⟨len, fun A outer s H args us vs Q E hr e0 hb r hsp => ?_⟩
  have hl := len _ _ _ _ hsp
  have KX : K.In s.heap := e0.mod.kin.keeps fun b o e => (e0.bs b o e).1
  have lim : s.heap.NoLimit := e0.mod.nolimit.keeps fun b o e => (e0.bs b o e).1
  have hkind : ∀ y ∈ ps.zip us, scope.names.lookup y.1 = some .local ∨ (scope.names.lookup y.1 = some .cell ∧ ((cellsFrom (s.heap.objs.size + 1) scope.names []).lookup y.1).isSome = true) := fun ⟨n, v⟩ hy => by
    rcases S.par n (List.of_mem_zip hy).1 with q | q
    · exact .inl q
    · exact .inr ⟨q, PySem.W.cellsFrom_some _ _ _ (.inl q)⟩
  refine codeAny_call_function hr.depth (KX _ _ lk) rfl S.co S.gen rfl (PySem.W.codeRec_of KX hcd) (hb _ _ _ _ ?_)
  refine wpAny_newFunctionEnv_cells S.kind hkind fun env he s1 x => ?_
  subst he
  refine ⟨lim.keeps x.toInCall.keep, codeAny_func ?_⟩
  obtain ⟨t, ht, hq⟩ := hbody A outer s H vs Q E (hr.deeper _) hsp
  have I : Inv (cxOf CX P w K mg base N qual scope f cdv A outer s H E) [] (start N vs) H s1 := inv_start S hr.hd e0 hl r x
  refine wpAny_mono (ht [] s1 (start N vs) H _ I hq) (fun fl s' hs => ?_) fun e s' hs => hs
  have fin : ∀ {σ' : St} {H' : Hp} {v : V} {u : Value}, Inv (cxOf CX P w K mg base N qual scope f cdv A outer s H E) [] σ' H' s' → RelV v u → Q v H' → CE outer P w H s Q u s' :=
    fun {σ' H' v u} J rv q => ⟨v, H', J.os, J.bare, J.base, J.hok, rv, q⟩
  cases fl with
  | ret u =>
    obtain ⟨v, σ', H', J, rv, q⟩ := hs
    exact fin J rv q
  | next =>
    obtain ⟨σ', H', J, q⟩ := hs
    exact fin (v := V.non) (u := Value.none) J rfl q
  | brk =>
    obtain ⟨_, _, _, q⟩ := hs
    exact False.elim q
  | cont =>
    obtain ⟨_, _, _, q⟩ := hs
    exact False.elim q
end L2

namespace L2
open PySem PySem.Spec PyProof.Rows
section
variable {X : Cx} {x : Str} {p pos : Pos} {e : Expr} {es : List Expr} {t : TA} {id T : String} {r : List V → Hp → VK → Prop}

noncomputable def tCB (r : List V → Hp → VK → Prop) (t : TA) : TE := fun σ H Q => t σ H fun vs H1 => r vs H1 Q
theorem pe_callB (hc : CallR X (.builtin id) r) (hg : Gl X x) (hm : X.mg x = none) (hv : bootBuiltins x = some (.builtin id)) (ha : PA X (e :: es) t) (hn : x ≠ "__name__") (hdb : (x == ("__debug__" : Str)) = false)
    (he : starEach (e :: es) X.env = (false, eval e X.env) :: starEach es X.env) (hpl : (backTo pos (starEach es X.env)).any (·.1) = false) : PE X (.Call (.Name x p) (e :: es) [] pos) (tCB r t) := by
  intro pins s σ H Q I h
  refine wpAny_Call_Name_kw (ld_blt I hg hm hv ?_ hn hdb)
  refine PyProof.Rows.callWith_builtin1 (thn (ha pos pins s σ H _ I h) fun us s1 hzz => ?_) he hpl
  obtain ⟨vs, H1, I1, r1, q1⟩ := hzz
  exact hc pins s1 σ H1 vs us Q I1 r1 q1
theorem pe_callTy (hc : CallR X (.type T) r) (hg : Gl X x) (hm : X.mg x = none) (hv : bootBuiltins x = some (.type T)) (ha : PA X (e :: es) t) (hn : x ≠ "__name__") (hdb : (x == ("__debug__" : Str)) = false)
    (he : starEach (e :: es) X.env = (false, eval e X.env) :: starEach es X.env) (hpl : (backTo pos (starEach es X.env)).any (·.1) = false) : PE X (.Call (.Name x p) (e :: es) [] pos) (tCB r t) := by
  intro pins s σ H Q I h
  refine wpAny_Call_Name_kw (ld_blt I hg hm hv ?_ hn hdb)
  refine PyProof.Rows.callWith_type1 (thn (ha pos pins s σ H _ I h) fun us s1 hzz => ?_) he hpl
  obtain ⟨vs, H1, I1, r1, q1⟩ := hzz
  exact hc pins s1 σ H1 vs us Q I1 r1 q1
end
end L2

namespace HT
open PySem PyProof.Rows

section
open PySem.SeqAt
open PySem.AutoSeq1 (wpAny_loadPart')
open PySem.MeetsSeq PySem.MeetsSeq2 PySem.MeetsSeq3

end

section
variable {prog : Program} {w : World} {A : Around} {E : Value → Shared → Prop} {s : Shared}

end
end HT

namespace L2
open PySem PySem.Spec PyProof.Rows

section
variable {X : Cx} {e : Expr} {te : TE} {lo hi : Option Expr} {tl th : TO} {pos p2 : Pos}

end
end L2

namespace L2
open PySem PySem.Spec PyProof.Rows
noncomputable def ixN (n : Nat) (i : Int) : Option Nat := if 0 ≤ i then (if i < n then some i.toNat else none) else if -(n : Int) ≤ i then some (i + n).toNat else none
noncomputable def atI {α : Type} (xs : List α) (i : Int) : Option α := (ixN xs.length i).bind fun j => xs[j]?
theorem ixN_seq {n : Nat} {i : Int} {j : Nat} (h : ixN n i = some j) : seqIndex? i n = some j ∧ j < n ∧ -(n : Int) ≤ i ∧ i < n := by
  unfold ixN at h
  by_cases h0 : 0 ≤ i
  · rw [if_pos h0] at h
    by_cases h1 : i < n
    · rw [if_pos h1] at h
      have e : i.toNat = j := Option.some.inj h
      exact ⟨by rw [seqIndex_of h0 h1, e], by omega, by omega, h1⟩
    · rw [if_neg h1] at h; cases h
  · rw [if_neg h0] at h
    by_cases h1 : -(n : Int) ≤ i
    · rw [if_pos h1] at h
      have e : (i + n).toNat = j := Option.some.inj h
      exact ⟨by rw [seqIndex_neg (by omega) h1, e], by omega, h1, by omega⟩
    · rw [if_neg h1] at h; cases h
theorem atI_get {α : Type} {xs : List α} {i : Int} {v : α} (h : atI xs i = some v) : ∃ j, seqIndex? i xs.length = some j ∧ xs[j]? = some v ∧ j < xs.length ∧ -(xs.length : Int) ≤ i ∧ i < xs.length := by
  unfold atI at h
  cases e : ixN xs.length i with
  | none => rw [e] at h; cases h
  | some j =>
    rw [e] at h
    obtain ⟨h1, h2, h3, h4⟩ := ixN_seq e
    exact ⟨j, h1, h, h2, h3, h4⟩
theorem atI_nat {α : Type} {xs : List α} {j : Nat} {v : α} (h : xs[j]? = some v) : atI xs (j : Int) = some v := by
  have hj : j < xs.length := (List.getElem?_eq_some_iff.mp h).1
  have e : ixN xs.length (j : Int) = some j := by
    unfold ixN
    rw [if_pos (by omega), if_pos (by omega)]; simp
  unfold atI; rw [e]; exact h
noncomputable def PlainIx (b : Expr) : Prop := ∀ o i, subscripted b false o i = operate [o, i] (getItem o i)
noncomputable def IxR (X : Cx) (r : R2) : Prop :=
  ∀ (value slice : Expr) (pins : List (Addr × Obj)) (s : Shared) (σ : St) (H : Hp) (x y : V) (v u : Value) (Q : VK), Inv X pins σ H s → RelV x v → RelV y u → r x y H Q →
    subscripted slice false v u = operate [v, u] (getItem v u) → wpAny (model X.prog X.w) X.A (subscriptTail value slice v u) (EP X pins σ Q) X.xe s
noncomputable def MtR (X : Cx) (id : String) (r : V → List V → Hp → VK → Prop) : Prop :=
  ∀ (pins : List (Addr × Obj)) (s : Shared) (σ : St) (H : Hp) (x : V) (xs : List V) (v : Value) (us : List Value) (Q : VK), Inv X pins σ H s → RelV x v → Vals xs us → r x xs H Q →
    wpAny (model X.prog X.w) X.A (call (.builtin id) (v :: us)) (EP X pins σ Q) X.xe s
section
variable {X : Cx} {a b : Expr} {ta tb : TE} {pos : Pos}
theorem pe_ix {r : R2} (hr : IxR X r) (ha : PE X a ta) (hb : PE X b tb) (hs : PlainIx b) : PE X (.Subscript a b pos) (tOp r ta tb) := by
  intro pins s σ H Q I h
  exact Subscript_ (binT ha hb I h fun v u s2 x y H2 I2 rx ry q => hr a b pins s2 σ H2 x y v u Q I2 rx ry q (hs _ _))

noncomputable def rIxL (K : PySem.W.Frag) : R2 := fun x y H Q => ∃ p xs i v, x = .ref p ∧ y = .int i ∧ SqL K H p xs ∧ atI xs i = some v ∧ Q v H
noncomputable def rIxT (K : PySem.W.Frag) : R2 := fun x y H Q => ∃ p xs i v, x = .ref p ∧ y = .int i ∧ SqT K H p xs ∧ atI xs i = some v ∧ Q v H
noncomputable def rIxS : R2 := fun x y H Q => ∃ z i c, x = .str z ∧ y = .int i ∧ z.length ≤ sizeLine ∧ atI z.cps.toList i = some c ∧ Q (.str ⟨#[c]⟩) H
theorem ix_list : IxR X (rIxL X.K) := by
  intro value slice pins s σ H x y v u Q I rx ry h hs
  obtain ⟨p, xs, i, z, rfl, rfl, hq, he, q⟩ := h
  cases rx
  obtain ⟨t, rfl⟩ := ry
  obtain ⟨its, r, pl, hz⟩ := I.list hq
  obtain ⟨j, h1, h2, h3, h4, h5⟩ := atI_get he
  obtain ⟨w, ew, rw'⟩ := r.get h2
  have hl := r.length
  have hn := line63
  have fin : EP X pins σ Q w s := ⟨z, H, I, rw', q⟩
  by_cases h0 : 0 ≤ i
  · have hj : i.toNat = j := by
      rw [seqIndex_of h0 h5] at h1
      exact Option.some.inj h1
    exact item_listR pl.isList h0 (by omega) (by rw [hj]; simpa using ew) fin hs
  · have hj : (i + (its.toArray.size : Int)).toNat = j := by
      rw [seqIndex_neg (by omega) h4] at h1
      rw [List.size_toArray, ← hl]
      exact Option.some.inj h1
    exact subscriptTail_builtinR (x := w) pl.isList.typeIs slot_list_getitem.lookup
      (wpAny_getItem_list_neg (Q := fun r s' => r = w ∧ EP X pins σ Q r s') pl.isList (by omega) (by rw [List.size_toArray] <;> omega) (by omega) (by rw [hj]; simpa using ew) ⟨rfl, fin⟩) hs
theorem ix_tup : IxR X (rIxT X.K) := by
  intro value slice pins s σ H x y v u Q I rx ry h hs
  obtain ⟨p, xs, i, z, rfl, rfl, hq, he, q⟩ := h
  cases rx
  obtain ⟨t, rfl⟩ := ry
  obtain ⟨its, r, pl, hz⟩ := I.tuple hq
  obtain ⟨j, h1, h2, h3, h4, h5⟩ := atI_get he
  obtain ⟨w, ew, rw'⟩ := r.get h2
  have hl := r.length
  have hn := line63
  have fin : EP X pins σ Q w s := ⟨z, H, I, rw', q⟩
  exact subscriptTail_builtinR (x := w) pl.typeIs slot_tuple_getitem.lookup
    (getItem_tuple (j := j) (Q := fun r s' => r = w ∧ EP X pins σ Q r s') pl (by omega) (by omega) (by rw [List.size_toArray, ← hl]; exact h1) (by simpa using ew) ⟨rfl, fin⟩) hs
theorem ix_str : IxR X rIxS := by
  intro value slice pins s σ H x y v u Q I rx ry h hs
  obtain ⟨z, i, c, rfl, rfl, hz, he, q⟩ := h
  obtain ⟨t, rfl⟩ := rx
  obtain ⟨t', rfl⟩ := ry
  obtain ⟨j, h1, h2, h3, h4, h5⟩ := atI_get he
  have hl : z.cps.toList.length = z.length := by simp [Str.length]
  rw [hl] at h1 h4 h5
  have hn := line63
  exact tail_any (typeIs_str s z t) slot_str_getitem.lookup (getItem_str (c := c) (by
    have e1 : decide (i < -(2 ^ 63 : Int)) = false := decide_eq_false (by omega)
    have e2 : decide (i ≥ 2 ^ 63) = false := decide_eq_false (by omega)
    rw [e1, e2, Bool.or_false]) (by rw [h1]; simpa using h2) ⟨.str ⟨#[c]⟩, H, I.tok _, ⟨_, rfl⟩, q⟩) hs
theorem mapSeq_set (its : List Value) (n j : Nat) (u : Value) : Obj.mapSeq (·.setIfInBounds j u) { cls := .type "list", data := .seq its.toArray n } = { cls := .type "list", data := .seq (its.set j u).toArray n } := by
  simp [Obj.mapSeq]
theorem Inv.lst {pins : List (Addr × Obj)} {σ : St} {H : Hp} {s : Shared} {p : Addr} {xs : List V} (I : Inv X pins σ H s) (h : H p = some (.lst xs)) :
    ∃ (its : List Value) (n : Nat), Vals xs its ∧ s.heap.get? p = some { cls := .type "list", data := .seq its.toArray n } ∧ xs.length ≤ sizeLine := by
  obtain ⟨z, its, n, r, e⟩ := I.hok p _ h
  exact ⟨its, n, r, e, z⟩
theorem Inv.lstUpd {pins : List (Addr × Obj)} {σ : St} {H : Hp} {s : Shared} {p : Addr} {xs ys : List V} {its its' : List Value} {n n' : Nat} {f : Obj → Obj} (I : Inv X pins σ H s) (h : H p = some (.lst xs))
    (ho : s.heap.get? p = some { cls := .type "list", data := .seq its.toArray n }) (hf : f { cls := .type "list", data := .seq its.toArray n } = { cls := .type "list", data := .seq its'.toArray n' }) (r : Vals ys its') (hz : ys.length ≤ sizeLine) (t : Nat) :
    Inv X pins σ (upd H p (.lst ys)) { s with heap := s.heap.update p f, toks := t } := by
  have e : (s.heap.update p f).get? p = some { cls := .type "list", data := .seq its'.toArray n' } := by
    rw [Heap.get?_update_self f ho (by rw [hf] <;> rfl), hf]
  refine I.write (x := p) (e := p) (by rw [h]; trivial) (.inl rfl) (fun b u hb q => (Heap.get?_update_other _ _ (Ne.symm hb)).trans q) ⟨_, e⟩ ?_
  exact ⟨hz, its', n', r, e⟩
noncomputable def rSetL : V → V → V → Hp → (Hp → Prop) → Prop := fun o i v H Q => ∃ p xs k j, o = .ref p ∧ i = .int k ∧ H p = some (.lst xs) ∧ ixN xs.length k = some j ∧ Q (upd H p (.lst (xs.set j v)))
theorem set_list : PSet X rSetL := by
  intro pins s σ H o i v ov iv u Q I ro ri rv h
  obtain ⟨p, xs, k, j, rfl, rfl, hp, hj, q⟩ := h
  cases ro
  obtain ⟨t, rfl⟩ := ri
  obtain ⟨its, n, r, ho, hz⟩ := I.lst hp
  obtain ⟨h1, h2, h3, h4⟩ := ixN_seq hj
  have hl := r.length
  have hn := line63
  have I' : Inv X pins σ (upd H p (.lst (xs.set j v))) { s with heap := s.heap.update p (Obj.mapSeq (·.setIfInBounds j u)) } :=
    I.lstUpd hp ho (mapSeq_set its n j u) (r.set rv j) (by rw [List.length_set]; exact hz) s.toks
  by_cases h0 : 0 ≤ k
  · have hk : k.toNat = j := by
      rw [seqIndex_of h0 h4] at h1
      exact Option.some.inj h1
    exact PySem.W.ki_setAt ho h0 (by omega) (by rw [List.size_toArray, ← hl]; exact h4) (by rw [hk]; exact ⟨_, I', q⟩)
  · have hk : (k + (its.toArray.size : Int)).toNat = j := by
      rw [seqIndex_neg (by omega) h3] at h1
      rw [List.size_toArray, ← hl]
      exact Option.some.inj h1
    exact PySem.W.ki_setBack ho (by omega) (by rw [List.size_toArray, ← hl]; exact h3) (by omega) (by rw [hk]; exact ⟨_, I', q⟩)

noncomputable def flatV : V → Bool
  | .non => true
  | .bl _ => true
  | .int _ => true
  | .str _ => true
  | _ => false
noncomputable def eqV : V → V → Bool
  | .non, .non => true
  | .bl a, .bl b => a == b
  | .bl a, .int b => (if a then 1 else 0) == b
  | .int a, .bl b => a == (if b then 1 else 0)
  | .int a, .int b => a == b
  | .str a, .str b => a == b
  | _, _ => false
theorem eqAt_V {A : Around} {s : Shared} {y x : V} {u v : Value} (ry : RelV y u) (rx : RelV x v) (fy : flatV y = true) (fx : flatV x = true) : SeqAt.EqAt A s u v (eqV y x) := by
  cases y with
  | non =>
    cases ry
    cases x with
    | non => cases rx; exact SeqAt.EqAt.same _
    | bl b => cases rx; exact SeqAt.EqAt.none_bool b
    | int b => obtain ⟨t, rfl⟩ := rx; exact SeqAt.EqAt.none_int b t
    | str b => obtain ⟨t, rfl⟩ := rx; exact SeqAt.EqAt.none_str b t
    | _ => exact absurd (show false = true from fx) Bool.false_ne_true
  | bl a =>
    cases ry
    cases x with
    | non => cases rx; exact SeqAt.EqAt.bool_none a
    | bl b => cases rx; exact SeqAt.EqAt.bool_bool a b
    | int b => obtain ⟨t, rfl⟩ := rx; exact SeqAt.EqAt.bool_int a b t
    | str b => obtain ⟨t, rfl⟩ := rx; exact SeqAt.EqAt.bool_str a b t
    | _ => exact absurd (show false = true from fx) Bool.false_ne_true
  | int a =>
    obtain ⟨t', rfl⟩ := ry
    cases x with
    | non => cases rx; exact SeqAt.EqAt.int_none a t'
    | bl b => cases rx; exact SeqAt.EqAt.int_bool a t' b
    | int b => obtain ⟨t, rfl⟩ := rx; exact SeqAt.EqAt.int_int a t' b t
    | str b => obtain ⟨t, rfl⟩ := rx; exact SeqAt.EqAt.int_str a t' b t
    | _ => exact absurd (show false = true from fx) Bool.false_ne_true
  | str a =>
    obtain ⟨t', rfl⟩ := ry
    cases x with
    | non => cases rx; exact SeqAt.EqAt.str_none a t'
    | bl b => cases rx; exact SeqAt.EqAt.str_bool a t' b
    | int b => obtain ⟨t, rfl⟩ := rx; exact SeqAt.EqAt.str_int a t' b t
    | str b => obtain ⟨t, rfl⟩ := rx; exact SeqAt.EqAt.str_str a t' b t
    | _ => exact absurd (show false = true from fx) Bool.false_ne_true
  | _ => exact absurd (show false = true from fy) Bool.false_ne_true
noncomputable def eqU (x : V) (u : Value) : Bool := match u with
  | .none => eqV .non x
  | .bool b => eqV (.bl b) x
  | .int i _ => eqV (.int i) x
  | .str z _ => eqV (.str z) x
  | _ => false
theorem eqU_of {x y : V} {u : Value} (r : RelV y u) (f : flatV y = true) : eqU x u = eqV y x := by
  cases y with
  | non => cases r; rfl
  | bl b => cases r; rfl
  | int i => obtain ⟨t, rfl⟩ := r; rfl
  | str z => obtain ⟨t, rfl⟩ := r; rfl
  | _ => exact absurd (show false = true from f) Bool.false_ne_true
theorem any_eqU {x : V} {xs : List V} {us : List Value} (h : Vals xs us) : xs.all flatV = true → us.any (eqU x) = xs.any fun y => eqV y x := by
  induction h with
  | nil => exact fun _ => rfl
  | cons r _ ih =>
    intro f
    rw [List.all_cons, Bool.and_eq_true] at f
    rw [List.any_cons, List.any_cons, eqU_of r f.1, ih f.2]
theorem mem_eqAt {A : Around} {s : Shared} {x : V} {v : Value} (rx : RelV x v) (fx : flatV x = true) : ∀ {xs : List V} {us : List Value}, Vals xs us → xs.all flatV = true → ∀ u ∈ us, SeqAt.EqAt A s u v (eqU x u) := by
  intro xs us h
  induction h with
  | nil => intro _ u hu; cases hu
  | cons r _ ih =>
    intro f u' hu
    rw [List.all_cons, Bool.and_eq_true] at f
    rcases List.mem_cons.mp hu with rfl | hu
    · rw [eqU_of r f.1]; exact eqAt_V r rx f.1 fx
    · exact ih f.2 u' hu
noncomputable def inV (x : V) (xs : List V) : Bool := xs.any fun y => eqV y x
noncomputable def rIn (K : PySem.W.Frag) (neg : Bool) : R2 := fun x y H Q => ∃ p xs, y = .ref p ∧ (SqL K H p xs ∨ SqT K H p xs) ∧ flatV x = true ∧ xs.all flatV = true ∧ Q (.bl (if neg then !inV x xs else inV x xs)) H
theorem op_in_seq : OpR X (compareOp .In) (rIn X.K false) := by
  intro pins s σ H x y v u Q I rx ry h
  obtain ⟨p, xs, rfl, hq, fx, fs, q⟩ := h
  cases ry
  rcases hq with hq | hq
  · obtain ⟨its, r, pl, hz⟩ := I.list hq
    refine SeqAt.in_listAt (eqU x) pl.isList (fun w hw => mem_eqAt rx fx r fs w (by simpa using hw)) ⟨.bl _, H, I, rfl, ?_⟩
    rw [show its.toArray.any (eqU x) = its.any (eqU x) by simp, any_eqU r fs]
    exact q
  · obtain ⟨its, r, pl, hz⟩ := I.tuple hq
    refine SeqAt.in_tupleAt (eqU x) pl (fun w hw => mem_eqAt rx fx r fs w (by simpa using hw)) ⟨.bl _, H, I, rfl, ?_⟩
    rw [show its.toArray.any (eqU x) = its.any (eqU x) by simp, any_eqU r fs]
    exact q
theorem call_len_seq : CallR X (.builtin "len") (fun xs H Q => ∃ p ys, xs = [.ref p] ∧ (SqL X.K H p ys ∨ SqT X.K H p ys) ∧ Q (.int ys.length) H) := by
  intro pins s σ H xs us Q I r h
  obtain ⟨p, ys, rfl, hq, q⟩ := h
  obtain ⟨u, rfl, rx⟩ := vals1 r
  cases rx
  have hn := line63
  rcases hq with hq | hq
  · obtain ⟨its, r', pl, hz⟩ := I.list hq
    have hlen := r'.length
    exact Calls.call_len_list pl.isList (by simp only [List.size_toArray] <;> omega) ⟨.int ys.length, H, I.tok _, ⟨s.toks + 1, by rw [List.size_toArray, hlen]⟩, q⟩
  · obtain ⟨its, r', pl, hz⟩ := I.tuple hq
    have hlen := r'.length
    exact len_tuple pl (by simp only [List.size_toArray] <;> omega) ⟨.int ys.length, H, I.tok _, ⟨s.toks + 1, by rw [List.size_toArray, hlen]⟩, q⟩
theorem call_tuple_of : CallR X (.type "tuple") (fun xs H Q => ∃ p ys, xs = [.ref p] ∧ ((SqL X.K H p ys ∧ ∀ l, H l = none → Q (.ref l) (upd H l (.tup ys))) ∨ (SqT X.K H p ys ∧ Q (.ref p) H))) := by
  intro pins s σ H xs us Q I r h
  obtain ⟨p, ys, rfl, h⟩ := h
  obtain ⟨u, rfl, rx⟩ := vals1 r
  cases rx
  rcases h with ⟨hq, q⟩ | ⟨hq, q⟩
  · obtain ⟨its, r', pl, hz⟩ := I.list hq
    have hlen := r'.length
    refine call_tuple_list pl.isList (fun h' kp => ?_) (by simp only [List.size_toArray] <;> omega)
    have I1 : Inv X pins σ H { s with heap := h' } := I.kept (t' := s.toks) kp
    have I2 : Inv X pins σ (upd H h'.objs.size (.tup ys)) { s with heap := h'.push { cls := .type "tuple", data := .seq its.toArray } } :=
      I1.laid (t' := s.toks) (fun b o e => Heap.get?_push_of_some _ e) (Nat.le_refl _) (show ObjOk X.prog X.w _ _ _ (.tup ys) from ⟨hz, its, r', IsTup.new _ _⟩)
    exact ⟨.ref h'.objs.size, _, I2, rfl, q _ (I1.hok.fresh (Nat.le_refl _))⟩
  · obtain ⟨its, r', pl, hz⟩ := I.tuple hq
    exact call_tuple_same pl ⟨.ref p, H, I, rfl, q⟩
noncomputable def tyV (K : PySem.W.Frag) (T : String) (x : V) (H : Hp) : Prop := match x with
  | .str _ => T = "str"
  | .int _ => T = "int"
  | .ref p => (T = "list" ∧ ∃ xs, SqL K H p xs) ∨ (T = "tuple" ∧ ∃ o, K.lookup p = some o ∧ o.cls = .type "tuple" ∧ o.dict = none) ∨
      (T = "dict" ∧ ((∃ kvs, H p = some (.dK kvs)) ∨ ∃ kvs, H p = some (.dT kvs))) ∨ (T = "set" ∧ ∃ S n, H p = some (.set S n))
  | _ => False
theorem tyV_is {pins : List (Addr × Obj)} {σ : St} {H : Hp} {s : Shared} {T : String} {x : V} {v : Value} (I : Inv X pins σ H s) (r : RelV x v) (ty : tyV X.K T x H) :
    s.TypeIs v T ∧ ∀ a, v = .ref a → ∃ ob, s.heap.get? a = some ob ∧ ob.dict = none := by
  cases x with
  | str z =>
    obtain ⟨t, rfl⟩ := r
    cases (show T = "str" from ty)
    exact ⟨typeIs_str s z t, fun _ e => nomatch e⟩
  | int i =>
    obtain ⟨t, rfl⟩ := r
    cases (show T = "int" from ty)
    exact ⟨typeIs_int s i t, fun _ e => nomatch e⟩
  | ref p =>
    cases r
    rcases ty with ⟨rfl, xs, hq⟩ | ⟨rfl, o, hk, hc, hd⟩ | ⟨rfl, hk⟩ | ⟨rfl, S, n, hk⟩
    · obtain ⟨its, _, pl, _⟩ := I.list hq
      refine ⟨pl.isList.typeIs, fun a e => ?_⟩
      cases e
      obtain ⟨o, n, e, c, hd, _⟩ := pl
      exact ⟨o, e, hd⟩
    · refine ⟨⟨o, I.kIn p o hk, hc⟩, fun a e => ?_⟩
      cases e
      exact ⟨o, I.kIn _ o hk, hd⟩
    · have z : ∃ o, s.heap.get? p = some o ∧ o.ExactDict := by
        rcases hk with ⟨kvs, hk⟩ | ⟨kvs, hk⟩
        · obtain ⟨_, _, _, _, o, _, _, e, ex, _⟩ := I.hok p _ hk
          exact ⟨o, e, ex⟩
        · obtain ⟨_, _, _, _, o, _, _, e, ex, _⟩ := I.hok p _ hk
          exact ⟨o, e, ex⟩
      obtain ⟨o, e, ex⟩ := z
      refine ⟨⟨o, e, ex.1⟩, fun a e2 => ?_⟩
      cases e2
      exact ⟨o, e, ex.2.1⟩
    · obtain ⟨o, _, _, _, e, ex, _⟩ := I.hok p _ hk
      refine ⟨⟨o, e, ex.1⟩, fun a e2 => ?_⟩
      cases e2
      exact ⟨o, e, ex.2.1⟩
  | _ => exact False.elim ty
noncomputable def tBM (K : PySem.W.Frag) (T : String) (r : V → List V → Hp → VK → Prop) (to : TE) (t : TA) : TE := fun σ H Q => to σ H fun x H1 => tyV K T x H1 ∧ t σ H1 fun xs H2 => r x xs H2 Q
variable {o e : Expr} {es : List Expr} {to : TE} {t : TA} {name : Str} {apos cpos : Pos} {T id : String} {r : V → List V → Hp → VK → Prop}
theorem pe_bm (pa : PlainAttrs T) (slot : Slot T name id) (hty : typeOf (.builtin id) = pure (.type "method_descriptor")) (hm : MtR X id r) (ho : PE X o to) (ha : PA X (e :: es) t)
    (hbase : attributeBase o name X.env (eval o X.env) = eval o X.env)
    (hfew : ((backTo cpos (starEach (e :: es) X.env)).all (fun x => !x.1) && (backToKw cpos (keywordEach [] X.env)).all (fun x => x.1.isSome)
      && decide ((e :: es).length + ([] : List Keyword).length + (if ([] : List Keyword).isEmpty then 0 else 1) < 30)) = true)
    (hline : (apos.endLine == cpos.line) = true) (hs : starEach (e :: es) X.env = (false, eval e X.env) :: starEach es X.env) (hplain : (backTo cpos (starEach es X.env)).any (·.1) = false) :
    PE X (.Call (.Attribute o name apos) (e :: es) [] cpos) (tBM X.K T r to t) := by
  intro pins s σ H Q I h
  refine wpAny_Call_method_late hbase hfew hline rfl (thn (ho pins s σ H _ I h) fun v s1 hzz => ?_)
  obtain ⟨x, H1, I1, r1, ty, q1⟩ := hzz
  obtain ⟨h1, h2⟩ := tyV_is I1 r1 ty
  refine ⟨T, id, pa, slot, hty, h1, h2, ?_⟩
  have hA := ha cpos pins s1 σ H1 _ I1 q1
  rw [hs] at hA ⊢
  refine Calls.callWith_builtin (by show (false || (backTo cpos (starEach es X.env)).any (·.1)) = false; rw [hplain] <;> rfl) (Calls.evalArgs_plain ?_)
  refine thn hA fun us s2 hzz => ?_
  obtain ⟨vs, H2, I2, r2, q2⟩ := hzz
  exact hm pins s2 σ H2 x vs v us Q I2 r1 r2 q2
end
end L2

namespace L2
open PySem PySem.Spec PyProof.Rows

noncomputable def MtM (X : Cx) (id : String) (r : V → List V → Hp → VK → Prop) : Prop :=
  ∀ (pins : List (Addr × Obj)) (s : Shared) (σ : St) (H : Hp) (x : V) (xs : List V) (v : Value) (us : List Value) (Q : VK), Inv X pins σ H s → RelV x v → Vals xs us → r x xs H Q →
    wpAny (model X.prog X.w) X.A (call (.builtin id) (v :: us)) (EP X pins σ Q) X.xe s

theorem Vals.one {x : V} {us : List Value} (h : Vals [x] us) : ∃ u, us = [u] ∧ RelV x u := by
  cases h with
  | cons r t => cases t; exact ⟨_, rfl, r⟩
theorem Vals.rep {xs : List V} {us : List Value} (h : Vals xs us) : ∀ k : Nat, Vals (List.replicate k xs).flatten (List.replicate k us).flatten
  | 0 => .nil
  | k + 1 => by
    rw [List.replicate_succ, List.replicate_succ, List.flatten_cons, List.flatten_cons]
    exact Vals.append h (Vals.rep h k)
theorem foldl_rep (its : List Value) : ∀ (k : Nat) (acc : List Value),
    List.foldl (fun x1 x2 => x1 ++ x2) acc.toArray (List.replicate k its.toArray) = (acc ++ (List.replicate k its).flatten).toArray
  | 0, acc => by simp
  | k + 1, acc => by
    have e : acc.toArray ++ its.toArray = (acc ++ its).toArray := by simp
    have e2 : (acc ++ its) ++ (List.replicate k its).flatten = acc ++ (List.replicate (k + 1) its).flatten := by
      rw [List.replicate_succ, List.flatten_cons, List.append_assoc]
    rw [← e2, ← foldl_rep its k (acc ++ its), ← e, List.replicate_succ, List.foldl_cons]

section
variable {X : Cx} {pins : List (Addr × Obj)} {σ : St} {H : Hp} {s : Shared} {l b : Addr} {xs ys zs : List V}

theorem Inv.lset {its its' : List Value} {n : Nat} {f : Array Value → Array Value} {t' : Nat} (I : Inv X pins σ H s) (hH : H l = some (.lst xs))
    (e : s.heap.get? l = some { cls := .type "list", data := .seq its.toArray n }) (hf : f its.toArray = its'.toArray) (hv : Vals ys its') (hz : ys.length ≤ sizeLine) :
    Inv X pins σ (upd H l (.lst ys)) { s with heap := s.heap.update l (Obj.mapSeq f), toks := t' } := by
  have q := PySem.IsL.update e f
  rw [hf] at q
  refine I.write (x := l) (e := l) (by rw [hH]; exact trivial) (.inl rfl) (fun b' u hb hu => (Heap.get?_update_other s.heap (Obj.mapSeq f) (Ne.symm hb)).trans hu) ⟨_, q⟩ ?_
  exact ⟨hz, its', _, hv, q⟩
theorem Inv.lnew {its : List Value} {t' : Nat} (I : Inv X pins σ H s) (hv : Vals ys its) (hz : ys.length ≤ sizeLine) :
    Inv X pins σ (upd H s.heap.objs.size (.lst ys)) { s with heap := s.heap.push { cls := .type "list", data := .seq its.toArray }, toks := t' } :=
  I.laid (fun _ _ q => Heap.get?_push_of_some _ q) (Nat.le_refl _) ⟨hz, its, 0, hv, Heap.get?_push_size _ rfl⟩
theorem Inv.fresh (I : Inv X pins σ H s) : H s.heap.objs.size = none := I.hok.fresh (Nat.le_refl _)
theorem Inv.lstM (I : Inv X pins σ H s) (hH : H l = some (.lst xs)) : xs.length ≤ sizeLine ∧ ∃ (its : List Value) (n : Nat), Vals xs its ∧ xs.length = its.length ∧ s.heap.get? l = some { cls := .type "list", data := .seq its.toArray n } := by
  obtain ⟨z, its, n, r, e⟩ := I.hok l _ hH
  exact ⟨z, its, n, r, r.length, e⟩

theorem notLongL {n : Nat} (h : n ≤ sizeLine) : Builtin.List.listTooLong n = false := by
  unfold Builtin.List.listTooLong
  exact decide_eq_false (by omega)
end

section
variable {X : Cx}

noncomputable def rAppend : V → List V → Hp → VK → Prop := fun x vs H Q => ∃ l xs y, x = .ref l ∧ vs = [y] ∧ H l = some (.lst xs) ∧ xs.length < sizeLine ∧ Q .non (upd H l (.lst (xs ++ [y])))
theorem mt_append : MtM X "list.append" rAppend := by
  intro pins s σ H x vs v us Q I rx rv h
  obtain ⟨l, xs, y, rfl, rfl, hH, hz, q⟩ := h
  cases rx
  obtain ⟨u, rfl, ru⟩ := rv.one
  obtain ⟨z, its, n, r, hl, e⟩ := I.lstM hH
  refine call_meets F.slot_list_append ⟨_, e, rfl⟩ F.entry_list_append (F.args_list_append_2 _ _) (PySem.list_append l its.toArray n u (by rw [List.size_toArray]; omega)) ⟨e, ?_⟩
  refine ⟨.non, _, I.lset (its' := its ++ [u]) hH e (by simp) (r.append (.cons ru .nil)) ?_, rfl, q⟩
  rw [List.length_append, List.length_singleton]
  omega
noncomputable def rRep : R2 := fun x y H Q => ∃ l k xs, x = .ref l ∧ y = .int k ∧ H l = some (.lst xs) ∧ -(2 ^ 63) ≤ k ∧ k < 2 ^ 63 ∧ xs.length * k.toNat ≤ sizeLine ∧
  ∀ p, H p = none → Q (.ref p) (upd H p (.lst (List.replicate k.toNat xs).flatten))
theorem len_rep {α : Type} (xs : List α) (k : Nat) : (List.replicate k xs).flatten.length = k * xs.length := by
  induction k with
  | zero => simp
  | succ k ih => rw [List.replicate_succ, List.flatten_cons, List.length_append, ih, Nat.succ_mul, Nat.add_comm]
theorem op_rep : OpR X (binaryOp .Mult) rRep := by
  intro pins s σ H x y v u Q I rx ry h
  obtain ⟨l, k, xs, rfl, rfl, hH, h1, h2, hz, q⟩ := h
  cases rx
  obtain ⟨t, rfl⟩ := ry
  obtain ⟨z, its, n, r, hl, e⟩ := I.lstM hH
  have hlen : its.toArray.size * k.toNat ≤ sizeLine := by rw [List.size_toArray, ← hl]; exact hz
  have hcap : ¬ its.toArray.size * k.toNat > (2 ^ 63 - 1) / 8 := by
    have : (sizeLine : Nat) ≤ (2 ^ 63 - 1) / 8 := by decide
    omega
  have hfit : ¬ (!Builtin.List.listFitsIndex k) = true := by
    rw [fitsIndex_both h1 h2]
    exact Bool.false_ne_true
  have hlong : ¬ Builtin.List.listTooLong (its.toArray.size * k.toNat) = true := by
    rw [notLongL hlen]
    exact Bool.false_ne_true
  have hnew : List.foldl (fun x1 x2 => x1 ++ x2) #[] (List.replicate (if its.toArray.isEmpty = true then 0 else k.toNat) its.toArray) = (List.replicate k.toNat its).flatten.toArray := by
    have f0 : ∀ m : Nat, List.foldl (fun x1 x2 => x1 ++ x2) #[] (List.replicate m its.toArray) = (List.replicate m its).flatten.toArray := fun m => by
      have := foldl_rep its m []
      rw [List.nil_append] at this
      exact this
    rw [f0]
    cases its with
    | nil => simp
    | cons a r' => rw [if_neg (by simp)]
  refine wpAny_binaryOp_repeat_ref (T := "list") (U := "int") (by decide) ⟨_, e, rfl⟩ (fun s' => typeIs_int s' k t) noFill_list_mul F.fills_int_mul F.slot_int_rmul repeat_list F.slot_int_index.lookup
    (call_meets F.slot_int_rmul (typeIs_int s k t) F.entry_int_rmul (F.args_int_rmul_2 _ _) (int___rmul___int_list k t l its.toArray n)
      ⟨e, rfl, ⟨_, e, rfl⟩, call_meets F.slot_list_mul ⟨_, e, rfl⟩ F.entry_list_mul (F.args_list_mul_2 _ _) (AutoListH.list___mul___list_int_3 l its.toArray n k t hfit hcap hlong) ⟨e, ?_⟩⟩)
  rw [hnew]
  exact ⟨.ref _, _, I.lnew (t' := s.toks) (r.rep k.toNat) (by rw [len_rep, Nat.mul_comm]; exact hz), rfl, q _ I.fresh⟩

end

section
variable {prog : Program} {w : World} {A : Around} {E : Value → Shared → Prop} {s : Shared}
end

section
variable {X : Cx}
end
end L2

namespace L2
open PySem PySem.Spec PyProof.Rows

theorem Vals.ints : ∀ {ns : List Int} {us : List Value}, Vals (ns.map V.int) us → IntsAre us ns
  | [], us, h => by
    rw [List.map_nil] at h
    cases h
    exact IntsAre.nil
  | n :: ns, us, h => by
    rw [List.map_cons] at h
    cases h with
    | cons r t =>
      obtain ⟨k, rfl⟩ := r
      exact IntsAre.cons n k (Vals.ints t)
section
variable {prog : Program} {w : World} {A : Around} {E : Value → Shared → Prop} {s : Shared} {l : Addr} {its : List Value} {ns : List Int} {Q : Value → Shared → Prop}
end

section
variable {X : Cx}
end

section
variable {X : Cx}
end

section
variable {X : Cx}
end

section
variable {X : Cx}
end

mutual
inductive Dp (K : PySem.W.Frag) (H : Hp) : V → PyData → Prop
  | non : Dp K H .non .none
  | bl (b : Bool) : Dp K H (.bl b) (.bool b)
  | int (i : Int) : Dp K H (.int i) (.int i)
  | str (x : Str) : Dp K H (.str x) (.str x)
  | lst {a : Addr} {xs : List V} {ds : List PyData} : SqL K H a xs → DpAll K H xs ds → Dp K H (.ref a) (.list ds)
  | tup {a : Addr} {xs : List V} {ds : List PyData} : SqT K H a xs → DpAll K H xs ds → Dp K H (.ref a) (.tuple ds)
inductive DpAll (K : PySem.W.Frag) (H : Hp) : List V → List PyData → Prop
  | nil : DpAll K H [] []
  | cons {v : V} {vs : List V} {d : PyData} {ds : List PyData} : Dp K H v d → DpAll K H vs ds → DpAll K H (v :: vs) (d :: ds)
end
section
variable {X : Cx} {pins : List (Addr × Obj)} {σ : St} {H : Hp} {s : Shared}
mutual
theorem Dp.reads (I : Inv X pins σ H s) : ∀ (d : PyData) (v : V) (u : Value), Dp X.K H v d → RelV v u → ∃ as, Reads s.heap u d as
  | .none, _, _, h, r => by
    cases h
    cases r
    exact ⟨_, Reads.none⟩
  | .bool b, _, _, h, r => by
    cases h
    cases r
    exact ⟨_, Reads.bool b⟩
  | .int i, _, _, h, r => by
    cases h
    obtain ⟨t, rfl⟩ := r
    exact ⟨_, Reads.int i t⟩
  | .str x, _, _, h, r => by
    cases h
    obtain ⟨t, rfl⟩ := r
    exact ⟨_, Reads.str x t⟩
  | .list ds, _, _, h, r => by
    cases h with
    | lst hs ha =>
      cases r
      obtain ⟨its, rv, ⟨o, n, ho, hc, _, hd⟩, _⟩ := I.list hs
      obtain ⟨as, hr⟩ := Dp.readsAll I ds _ its ha rv
      exact ⟨_, Reads.list ho hc hd hr⟩
  | .tuple ds, _, _, h, r => by
    cases h with
    | tup hs ha =>
      cases r
      obtain ⟨its, rv, ⟨o, ho, hc, n, hd⟩, _⟩ := I.tuple hs
      obtain ⟨as, hr⟩ := Dp.readsAll I ds _ its ha rv
      exact ⟨_, Reads.tuple ho hc hd hr⟩
  | .dict _, _, _, h, _ => by cases h
theorem Dp.readsAll (I : Inv X pins σ H s) : ∀ (ds : List PyData) (vs : List V) (us : List Value), DpAll X.K H vs ds → Vals vs us → ∃ as, ReadsAll s.heap us ds as
  | [], _, _, h, r => by
    cases h
    cases r
    exact ⟨_, ReadsAll.nil⟩
  | d :: ds, _, _, h, r => by
    cases h with
    | cons h1 h2 =>
      cases r with
      | cons r1 r2 =>
        obtain ⟨as, q1⟩ := Dp.reads I d _ _ h1 r1
        obtain ⟨bs, q2⟩ := Dp.readsAll I ds _ _ h2 r2
        exact ⟨_, ReadsAll.cons q1 q2⟩
end
end
section
variable {X : Cx}
end
end L2

namespace L2
open PySem PySem.Spec PyProof.Rows
noncomputable abbrev CellAt (h : Heap) (c : Addr) (v : Option Value) : Prop := h.IsCell c v
noncomputable def relS (scope sc : Scope) : Scope :=
  { scope with names := scope.names.map fun (n, k) => if (k == .free && sc.kind == .function && sc.names.lookup n == some .cell) then (n, .cell) else (n, k) }

noncomputable def cloFrom (cells : List (Str × Addr)) : List (Str × NameKind) → List (Str × Addr) → List (Str × Addr)
  | [], acc => acc
  | (n, k) :: r, acc => if k == .free then cloFrom cells r ((n, (cells.lookup n).getD 0) :: acc) else cloFrom cells r acc

theorem closure_loop (env : Env) (f : Str × NameKind → List (Str × Addr) → Sem (ForInStep (List (Str × Addr))))
    (hf : ∀ n k c, f (n, k) c = if k == .free then (do let a ← cellOf env n; pure (.yield ((n, a) :: c))) else pure (.yield c)) :
    ∀ (names : List (Str × NameKind)) (acc : List (Str × Addr)), (∀ y ∈ names, y.2 = .free → ∃ c, env.cells.lookup y.1 = some c) → forIn names acc f = pure (cloFrom env.cells names acc)
  | [], acc, _ => by rw [List.forIn_nil]; rfl
  | (n, k) :: r, acc, h => by
    rw [List.forIn_cons, hf]
    have ih := fun acc => closure_loop env f hf r acc fun y hy => h y (List.mem_cons_of_mem _ hy)
    unfold cloFrom
    by_cases hk : (k == NameKind.free) = true
    · rw [if_pos hk, if_pos hk]
      obtain ⟨c, hc⟩ := h (n, k) List.mem_cons_self (by simpa using hk)
      have e : cellOf env n = pure c := by unfold cellOf; rw [hc]
      rw [e]
      have e2 : (env.cells.lookup n).getD 0 = c := by rw [hc]; rfl
      rw [e2]
      exact ih _
    · rw [if_neg hk, if_neg hk]
      exact ih _
theorem closure_ok {scope : Scope} {env : Env} (h : ∀ y ∈ scope.names, y.2 = .free → ∃ c, env.cells.lookup y.1 = some c) : closureFor scope env = pure (cloFrom env.cells scope.names []) := by
  simp only [closureFor]
  rw [closure_loop env _ (fun n k c => rfl) scope.names [] h]
  rfl

theorem mem_lookup {α : Type} : ∀ {l : List (Str × α)} {n : Str} {c : α}, (n, c) ∈ l → ∃ c', l.lookup n = some c'
  | (k, v) :: r, n, c, h => by
    rw [List.lookup_cons]
    cases hb : n == k with
    | true => exact ⟨_, rfl⟩
    | false =>
      rcases List.mem_cons.mp h with e | h
      · cases e; simp at hb
      · exact mem_lookup h

theorem cloFrom_mem {cells : List (Str × Addr)} : ∀ {names : List (Str × NameKind)} {acc : List (Str × Addr)} {n : Str} {c : Addr}, (n, c) ∈ cloFrom cells names acc → (n, c) ∈ acc ∨ ((n, .free) ∈ names ∧ c = (cells.lookup n).getD 0)
  | [], _, _, _, h => .inl h
  | (m, k) :: r, acc, n, c, h => by
    unfold cloFrom at h
    split at h
    · rename_i hk
      have hk : k = .free := by simpa using hk
      rcases cloFrom_mem h with h | ⟨h1, h2⟩
      · rcases List.mem_cons.mp h with e | h
        · cases e; exact .inr ⟨hk ▸ List.mem_cons_self, rfl⟩
        · exact .inl h
      · exact .inr ⟨List.mem_cons_of_mem _ h1, h2⟩
    · rcases cloFrom_mem h with h | ⟨h1, h2⟩
      · exact .inl h
      · exact .inr ⟨List.mem_cons_of_mem _ h1, h2⟩
theorem cloFrom_acc {cells : List (Str × Addr)} : ∀ {names : List (Str × NameKind)} {acc : List (Str × Addr)} {p : Str × Addr}, p ∈ acc → p ∈ cloFrom cells names acc
  | [], _, _, h => h
  | (m, k) :: r, acc, p, h => by
    unfold cloFrom
    split
    · exact cloFrom_acc (List.mem_cons_of_mem _ h)
    · exact cloFrom_acc h
theorem cloFrom_has {cells : List (Str × Addr)} : ∀ {names : List (Str × NameKind)} {acc : List (Str × Addr)} {n : Str}, (n, .free) ∈ names → (n, (cells.lookup n).getD 0) ∈ cloFrom cells names acc
  | (m, k) :: r, acc, n, h => by
    unfold cloFrom
    rcases List.mem_cons.mp h with e | h
    · cases e
      exact cloFrom_acc List.mem_cons_self
    · split
      · exact cloFrom_has h
      · exact cloFrom_has h

theorem cells_mem : ∀ {names : List (Str × NameKind)} {h : Heap} {acc : List (Str × Addr)} {x : Str} {c : Addr}, (x, c) ∈ cellsFrom h.objs.size names acc →
    (x, c) ∈ acc ∨ ((x, .cell) ∈ names ∧ h.objs.size ≤ c ∧ CellAt (pushCells h names) c none)
  | [], _, _, _, _, h => .inl h
  | (n, k) :: r, h, acc, x, c, hm => by
    unfold cellsFrom at hm
    unfold pushCells
    split at hm
    · rename_i hk
      rw [if_pos hk]
      have hk : k = .cell := by simpa using hk
      rw [← Heap.size_push h { cls := .type "cell", data := .cell none }] at hm
      rcases cells_mem hm with hm | ⟨h1, h2, h3⟩
      · rcases List.mem_cons.mp hm with e | hm
        · cases e
          exact .inr ⟨hk ▸ List.mem_cons_self, Nat.le_refl _, _, pushCells_keeps r _ _ _ (Heap.get?_push_size _ rfl), rfl⟩
        · exact .inl hm
      · rw [Heap.size_push] at h2
        exact .inr ⟨List.mem_cons_of_mem _ h1, Nat.le_of_succ_le h2, h3⟩
    · rename_i hk
      rw [if_neg hk]
      rcases cells_mem hm with hm | ⟨h1, h2, h3⟩
      · exact .inl hm
      · exact .inr ⟨List.mem_cons_of_mem _ h1, h2, h3⟩
theorem cells_acc : ∀ {names : List (Str × NameKind)} {n : Nat} {acc : List (Str × Addr)} {p : Str × Addr}, p ∈ acc → p ∈ cellsFrom n names acc
  | [], _, _, _, h => h
  | (m, k) :: r, n, acc, p, h => by
    unfold cellsFrom
    split
    · exact cells_acc (List.mem_cons_of_mem _ h)
    · exact cells_acc h
theorem cells_has : ∀ {names : List (Str × NameKind)} {n : Nat} {acc : List (Str × Addr)} {x : Str}, (x, .cell) ∈ names → ∃ c, (x, c) ∈ cellsFrom n names acc
  | (m, k) :: r, n, acc, x, h => by
    unfold cellsFrom
    rcases List.mem_cons.mp h with e | h
    · cases e
      exact ⟨n, cells_acc List.mem_cons_self⟩
    · split
      · exact cells_has h
      · exact cells_has h
theorem cells_inj : ∀ {names : List (Str × NameKind)} {h : Heap} {acc : List (Str × Addr)} {x y : Str} {c : Addr}, (∀ p ∈ acc, p.2 < h.objs.size) → (∀ x y c, (x, c) ∈ acc → (y, c) ∈ acc → x = y) →
    (x, c) ∈ cellsFrom h.objs.size names acc → (y, c) ∈ cellsFrom h.objs.size names acc → x = y
  | [], _, _, _, _, _, _, hi, h1, h2 => hi _ _ _ h1 h2
  | (n, k) :: r, h, acc, x, y, c, hl, hi, h1, h2 => by
    unfold cellsFrom at h1 h2
    split at h1
    · rename_i hk
      rw [if_pos hk] at h2
      rw [← Heap.size_push h { cls := .type "cell", data := .cell none }] at h1 h2
      refine cells_inj (h := h.push _) (fun p hp => ?_) (fun x y c a b => ?_) h1 h2
      · rw [Heap.size_push]
        rcases List.mem_cons.mp hp with rfl | hp
        · exact Nat.lt_succ_self _
        · exact Nat.lt_succ_of_lt (hl p hp)
      · rcases List.mem_cons.mp a with e | a <;> rcases List.mem_cons.mp b with e' | b
        · cases e; cases e'; rfl
        · cases e; exact absurd (hl _ b) (Nat.lt_irrefl _)
        · cases e'; exact absurd (hl _ a) (Nat.lt_irrefl _)
        · exact hi _ _ _ a b
    · rename_i hk
      rw [if_neg hk] at h2
      exact cells_inj hl hi h1 h2

theorem newEnv_comp {M : Model} {A : Around} {E : Value → Shared → Prop} {s : Shared} {scope : Scope} {globals : Addr} {closure : List (Str × Addr)} {qual : Str} {func : Option Addr} {code : Value} {around : Env} {builtins : Addr} {Q : Env → Shared → Prop}
    (h : Q (newEnv scope s.heap.objs.size globals (cellsFrom (s.heap.objs.size + 1) scope.names closure) qual func code (some around) builtins)
      { s with heap := pushCells (s.heap.push { cls := .type "dict", data := .dict #[] }) scope.names }) :
    wpAny M A (newFunctionEnv scope globals closure [] qual func code (some around) builtins) Q E s := by
  simp only [newFunctionEnv, Option.isSome_some, if_true]
  refine wpAny_bind (wpAny_alloc ?_)
  refine wpAny_bind (wpAny_layCells _ (fun n k c => rfl) scope.names closure _ _ ?_)
  rw [show ({ s with heap := s.heap.push { cls := .type "dict", data := .dict #[] } } : Shared).heap.objs.size = s.heap.objs.size + 1 from Heap.size_push ..]
  rw [List.forIn_nil]
  exact wpAny_bind (wpAny_pure (wpAny_pure h))
theorem lookup_relS {sc : Scope} : ∀ {names : List (Str × NameKind)} {x : Str} {k : NameKind},
    (names.map fun (n, k) => if (k == NameKind.free && sc.kind == .function && sc.names.lookup n == some .cell) then (n, NameKind.cell) else (n, k)).lookup x = some k →
    ∃ k', names.lookup x = some k' ∧ (k = k' ∨ (k' = .free ∧ k = .cell))
  | [], _, _, h => by simp at h
  | (n, k₀) :: r, x, k, h => by
    have ih := @lookup_relS sc r x k
    have h' : List.lookup x ((if (k₀ == NameKind.free && sc.kind == .function && sc.names.lookup n == some .cell) = true then (n, NameKind.cell) else (n, k₀)) :: (r.map _)) = some k := h
    cases hx : x == n with
    | true =>
      simp only [List.lookup_cons, hx]
      by_cases hc : (k₀ == NameKind.free && sc.kind == .function && sc.names.lookup n == some .cell) = true
      · rw [if_pos hc] at h'
        simp only [List.lookup_cons, hx] at h'
        cases h'
        simp only [Bool.and_eq_true, beq_iff_eq] at hc
        exact ⟨k₀, rfl, .inr ⟨hc.1.1, rfl⟩⟩
      · rw [if_neg hc] at h'
        simp only [List.lookup_cons, hx] at h'
        cases h'
        exact ⟨_, rfl, .inl rfl⟩
    | false =>
      simp only [List.lookup_cons, hx]
      by_cases hc : (k₀ == NameKind.free && sc.kind == .function && sc.names.lookup n == some .cell) = true
      · rw [if_pos hc] at h'
        simp only [List.lookup_cons, hx] at h'
        exact ih h'
      · rw [if_neg hc] at h'
        simp only [List.lookup_cons, hx] at h'
        exact ih h'
structure BlkOk (N : List Str) (sc scope : Scope) (own : List (Str × Nat)) : Prop where
  kind : scope.kind = .function
  uniq : ∀ y ∈ scope.names, scope.names.lookup y.1 = some y.2
  ix : ∀ p ∈ own, N[p.2]? = some p.1
  free : ∀ y ∈ scope.names, y.2 = .free → sc.names.lookup y.1 = some .cell ∨ sc.names.lookup y.1 = some .free
  own : ∀ y ∈ scope.names, y.2 = .local ∨ y.2 = .cell → y.1 ∈ own.map (·.1) ∨ y.1 ∉ N
noncomputable def wipe (σ : St) : List Nat → St
  | [] => σ
  | v :: vs => (wipe σ vs).set v none
theorem wipe_length (σ : St) : ∀ vs : List Nat, (wipe σ vs).length = σ.length
  | [] => rfl
  | v :: vs => by unfold wipe; rw [List.length_set, wipe_length σ vs]
theorem wipe_some {σ : St} {i : Nat} {x : V} : ∀ {vs : List Nat}, (wipe σ vs)[i]? = some (some x) → σ[i]? = some (some x) ∧ i ∉ vs
  | [], h => ⟨h, by simp⟩
  | v :: vs, h => by
    unfold wipe at h
    by_cases hi : v = i
    · subst hi
      by_cases hv : v < (wipe σ vs).length
      · rw [List.getElem?_set_self hv] at h; cases h
      · rw [List.getElem?_eq_none (by simpa using hv)] at h; cases h
    · rw [List.getElem?_set_ne hi] at h
      obtain ⟨h1, h2⟩ := wipe_some h
      exact ⟨h1, by simp only [List.mem_cons, not_or]; exact ⟨fun e => hi e.symm, h2⟩⟩
noncomputable abbrev Cx.blk (X : Cx) (s : Shared) (H : Hp) (scope : Scope) (cenv : Env) (fp : List Addr) : Cx := { X with s_0 := s, H_0 := H, env := cenv, outer := X.stack, ex := fp, fn := fun x => scope.names.lookup x == some .cell, pn := [], xe := fun _ _ => False }
section
variable {X : Cx} {pins : List (Addr × Obj)} {σ : St} {H : Hp} {s : Shared}
theorem block_start {scope : Scope} {own : List (Str × Nat)} {fp : List Addr} (I : Inv X pins σ H s) (ok : BlkOk X.N X.env.scope scope own) (hN : X.N.Nodup) (hfp : ∀ b ∈ fp, FpOk X pins H b ∧ b < s.heap.objs.size) :
    Inv (X.blk s H scope (compEnvC scope (cellsFrom (s.heap.objs.size + 1) scope.names (cloFrom X.env.cells scope.names [])) s.heap.objs.size X.env) fp) [] (wipe σ (own.map (·.2))) H { s with heap := pushCells (s.heap.push { cls := .type "dict", data := .dict #[] }) scope.names } := by
  have hfree : ∀ y ∈ scope.names, y.2 = .free → ∃ c, X.env.cells.lookup y.1 = some c := fun y hy e => by
    rcases ok.free y hy e with k | k
    · exact I.ok.has _ (.inl k)
    · exact I.ok.has _ (.inr k)
  generalize hcenv : compEnvC scope (cellsFrom (s.heap.objs.size + 1) scope.names (cloFrom X.env.cells scope.names [])) s.heap.objs.size X.env = cenv
  have kp : ∀ b o, s.heap.get? b = some o → (pushCells (s.heap.push { cls := .type "dict", data := .dict #[] }) scope.names).get? b = some o := fun b o e => pushCells_keeps _ _ _ _ (Heap.get?_push_of_some _ e)
  have hL : cenv.locals = s.heap.objs.size := by rw [← hcenv]; rfl
  have hcl : cenv.cells = cellsFrom (s.heap.objs.size + 1) scope.names (cloFrom X.env.cells scope.names []) := by rw [← hcenv]; rfl
  have hsc : cenv.scope = relS scope X.env.scope := by rw [← hcenv]; rfl
  rw [← Heap.size_push s.heap { cls := .type "dict", data := .dict #[] }] at hcl
  have cm : ∀ {y c}, (y, c) ∈ cloFrom X.env.cells scope.names [] → X.env.cells.lookup y = some c ∧ c < s.heap.objs.size := fun {y c} hm => by
    rcases cloFrom_mem hm with hm | ⟨h1, rfl⟩
    · cases hm
    · obtain ⟨c, hc⟩ := hfree _ h1 rfl
      rw [hc]
      obtain ⟨w, z⟩ := I.cell _ _ hc
      exact ⟨rfl, z.lt⟩
  have mem : ∀ {y c}, cenv.cells.lookup y = some c → (X.env.cells.lookup y = some c ∧ c < s.heap.objs.size) ∨ (s.heap.objs.size + 1 ≤ c ∧ CellAt (pushCells (s.heap.push { cls := .type "dict", data := .dict #[] }) scope.names) c none) := fun {y c} e => by
    rw [hcl] at e
    rcases cells_mem (PySem.mem_of_lookup e) with hm | ⟨_, h2, h3⟩
    · exact .inl (cm hm)
    · rw [Heap.size_push] at h2; exact .inr ⟨h2, h3⟩
  have look : ∀ {y}, scope.names.lookup y = some .free → ∃ c, cenv.cells.lookup y = some c ∧ X.env.cells.lookup y = some c := fun {y} hl => by
    have hy : (y, NameKind.free) ∈ scope.names := PySem.mem_of_lookup hl
    obtain ⟨c', e'⟩ := mem_lookup (cells_acc (names := scope.names) (n := (s.heap.push { cls := .type "dict", data := .dict #[] }).objs.size) (cloFrom_has (cells := X.env.cells) (acc := []) hy))
    rw [← hcl] at e'
    refine ⟨c', e', ?_⟩
    rw [hcl] at e'
    rcases cells_mem (PySem.mem_of_lookup e') with hm | ⟨h1, _, _⟩
    · exact (cm hm).1
    · have := ok.uniq _ h1
      rw [hl] at this; cases this
  have okB : (X.blk s H scope cenv fp).Ok := by
    refine ⟨I.ok.mod, by show cenv.scope.kind = _; rw [hsc]; exact ok.kind, by show cenv.globals = _; rw [← hcenv]; exact I.ok.glob, by show cenv.builtins = _; rw [← hcenv]; exact I.ok.blt, by show s.heap.objs.size ≤ cenv.locals; rw [hL]; exact Nat.le_refl _,
      fun y z c e1 e2 => ?_, fun y hy => ?_, fun y c z e => ?_, I.ok.hd, I.ok.frames, .inl rfl, fun b hb => ⟨?_, fun y c e z => ?_⟩, I.bs, Nat.le_trans I.ok.bsz I.sz, fun b o e hb => ?_, fun b hb z => ?_, I.stack, I.stkFree⟩
    · have e1 : cenv.cells.lookup y = some c := e1
      have e2 : cenv.cells.lookup z = some c := e2
      rw [hcl] at e1 e2
      refine cells_inj (fun p hp => ?_) (fun y z c a b => I.ok.inj y z c (cm a).1 (cm b).1) (PySem.mem_of_lookup e1) (PySem.mem_of_lookup e2)
      rw [Heap.size_push]
      exact Nat.lt_succ_of_lt (cm (y := p.1) (c := p.2) hp).2
    · show ∃ c, cenv.cells.lookup y = some c
      have key : ∀ k, cenv.kindOf y = some k → (k = .cell ∨ k = .free) → ∃ c, cenv.cells.lookup y = some c := fun k hk hk' => by
        unfold Env.kindOf at hk
        rw [hsc] at hk
        obtain ⟨k', e, r⟩ := lookup_relS hk
        have : k' = .cell ∨ k' = .free := by
          rcases r with rfl | ⟨rfl, _⟩
          · exact hk'
          · exact .inr rfl
        rcases this with rfl | rfl
        · obtain ⟨c, hm⟩ := cells_has (n := (s.heap.push { cls := .type "dict", data := .dict #[] }).objs.size) (acc := cloFrom X.env.cells scope.names []) (PySem.mem_of_lookup e)
          obtain ⟨c', e'⟩ := mem_lookup hm
          exact ⟨c', by rw [hcl]; exact e'⟩
        · obtain ⟨c, h1, _⟩ := look e
          exact ⟨c, h1⟩
      rcases hy with hy | hy
      · exact key _ hy (.inl rfl)
      · exact key _ hy (.inr rfl)
    · have z : (scope.names.lookup y == some NameKind.cell) = true := z
      have z : scope.names.lookup y = some .cell := by simpa using z
      have e : cenv.cells.lookup y = some c := e
      rw [hcl] at e
      rcases cells_mem (PySem.mem_of_lookup e) with hm | ⟨_, h2, _⟩
      · rcases cloFrom_mem hm with hm | ⟨h1, _⟩
        · cases hm
        · have q := ok.uniq _ h1
          rw [z] at q; cases q
      · rw [Heap.size_push] at h2
        exact Nat.le_of_succ_le h2
    · show b ≠ cenv.locals
      rw [hL]; exact Nat.ne_of_lt (hfp b hb).2
    · have e : cenv.cells.lookup y = some c := e
      rcases mem e with ⟨h1, _⟩ | ⟨h1, _⟩
      · exact (hfp b hb).1.2.2.2.2.1 y c h1 z
      · have h2 : s.heap.objs.size + 1 ≤ b := by rw [← z]; exact h1
        exact absurd (Nat.lt_of_lt_of_le (hfp b hb).2 (Nat.le_of_succ_le h2)) (Nat.lt_irrefl _)
    · rcases (hfp b hb).1.2.2.2.1 with z | z
      · exact I.ok.noex b o e z
      · exact absurd (Nat.lt_of_lt_of_le (Heap.lt_size e) (Nat.le_trans I.ok.bsz z)) (Nat.lt_irrefl _)
    · rcases List.mem_cons.mp (I.stkSub b z) with z | z
      · exact (hfp b hb).1.2.1 z
      · exact (hfp b hb).1.2.2.1 z
  refine ⟨okB, rfl, I.bare, Un.kept kp, ⟨fun _ => none, ?_, fun i y av e1 e2 e3 => ?_⟩, fun y c e => ?_, ?_, fun y c e => ?_, fun p hp => ?_, I.hok.kept kp, by rw [wipe_length]; exact I.len⟩
  · show Heap.Ns _ cenv.locals _
    rw [hL]
    exact Heap.Ns.keeps (Heap.Ns.new ..) fun b o e => pushCells_keeps _ _ _ _ e
  · obtain ⟨e2, hne⟩ := wipe_some e2
    have hfr : scope.names.lookup y = some .free ∧ (cenv.kindOf y = some .cell ∨ cenv.kindOf y = some .free) := by
      have key : ∀ k, cenv.scope.names.lookup y = some k → k = .local ∨ k = .cell ∨ k = .free → scope.names.lookup y = some .free ∧ (cenv.kindOf y = some .cell ∨ cenv.kindOf y = some .free) := fun k hk hk' => by
        have hk0 := hk
        rw [hsc] at hk
        obtain ⟨k', e, r⟩ := lookup_relS hk
        have no : ¬ (k' = .local ∨ k' = .cell) := fun hh => by
          rcases ok.own _ (PySem.mem_of_lookup e) hh with e' | e'
          · obtain ⟨p, hp, hpy⟩ := List.mem_map.mp e'
            have e3 := ok.ix p hp
            have : p.1 = y := hpy
            rw [this] at e3
            exact hne (List.mem_map.mpr ⟨p, hp, nodup_ix hN e3 e1⟩)
          · exact e' (List.mem_of_getElem? e1)
        rcases r with rfl | ⟨rfl, rfl⟩
        · rcases hk' with rfl | rfl | rfl
          · exact absurd (.inl rfl) no
          · exact absurd (.inr rfl) no
          · exact ⟨e, .inr hk0⟩
        · exact ⟨e, .inl hk0⟩
      have e3 : Vis cenv.scope y := e3
      rcases e3 with e3 | e3 | e3
      · exact key _ e3 (.inl rfl)
      · exact key _ e3 (.inr (.inl rfl))
      · exact key _ e3 (.inr (.inr rfl))
    obtain ⟨m, hn, hl⟩ := I.loc
    have hvis : Vis X.env.scope y := (ok.free _ (PySem.mem_of_lookup hfr.1) rfl).elim (fun k => .inr (.inl k)) (fun k => .inr (.inr k))
    obtain ⟨w, r, q⟩ := hl i y av e1 e2 hvis
    refine ⟨w, r, .inr ⟨hfr.2, ?_⟩⟩
    obtain ⟨c, h1, h2⟩ := look hfr.1
    rcases q with ⟨k, _⟩ | ⟨_, c', e', z⟩
    · have k : X.env.scope.names.lookup y = some .local := k
      rcases ok.free _ (PySem.mem_of_lookup hfr.1) rfl with k' | k' <;> rw [show X.env.scope.names.lookup y = _ from k'] at k <;> cases k
    · rw [h2] at e'; cases e'
      exact ⟨c, h1, z.keeps kp⟩
  · have e : cenv.cells.lookup y = some c := e
    rcases mem e with ⟨h1, _⟩ | ⟨_, z⟩
    · obtain ⟨w, z⟩ := I.cell y c h1
      exact ⟨w, z.keeps kp⟩
    · exact ⟨_, z⟩
  · show H cenv.locals = none
    rw [hL]; exact I.hok.fresh (Nat.le_refl _)
  · have e : cenv.cells.lookup y = some c := e
    rcases mem e with ⟨h1, _⟩ | ⟨h1, _⟩
    · exact I.freeC y c h1
    · exact I.hok.fresh (Nat.le_of_succ_le h1)
  · exact absurd (show p ∈ ([] : List (Addr × Obj)) ++ [] from hp) (by simp)
theorem app_ok {E : Value → Shared → Prop} {D : Addr} {xs : List V} {y : V} {v : Value} {Q : Value → Shared → Prop} (I : Inv X pins σ H s) (hD : H D = some (.lst xs)) (hz : xs.length < sizeLine) (r : RelV y v)
    (h : ∀ s', Inv X pins σ (upd H D (.lst (xs ++ [y]))) s' → Q .none s') : wpAny (model X.prog X.w) X.A (call (.builtin "list.append") [.ref D, v]) Q E s := by
  obtain ⟨hz', its, n, ri, e⟩ := I.hok D _ hD
  have hl := ri.length
  refine append_at (hsz := by rw [List.size_toArray]; omega) e fun h' sb ho' => ?_
  refine h { s with heap := h' } (I.write (t' := s.toks) (by rw [hD]; trivial) (.inl rfl) (fun b u hb q => (sb.2 b hb).trans q) ⟨_, ho'⟩ ⟨by rw [List.length_append]; exact hz, its ++ [v], n + 1, ri.append (.cons r .nil), ?_⟩)
  rw [ho']
  simp
noncomputable def PTs (X : Cx) (ifs : List Expr) (t : TT) : Prop :=
  ∀ (pins : List (Addr × Obj)) (s : Shared) (σ : St) (H : Hp) (Q : Bool → Hp → Prop), Inv X pins σ H s → t σ H Q →
    wpAny (model X.prog X.w) X.A (forIn ifs true fun c r => if r = true then do let ok ← isTrue c X.env (eval c X.env); pure (ForInStep.yield ok) else pure (ForInStep.yield r)) (TP X pins σ Q) X.xe s
noncomputable def tYes : TT := fun _ H Q => Q true H
theorem pts_nil : PTs X [] tYes := fun _ _ _ H _ I h => wpAny_tests_nil ⟨H, I, h⟩
theorem pts_one {c : Expr} {t : TT} (h : PT X c t) : PTs X [c] t := fun pins s σ H Q I hw => wpAny_tests_one (h pins s σ H Q I hw)
end

theorem thnF {α : Type} {t : Sem α} {Q Q' : α → Shared → Prop} {M : Model} {A : Around} {E : Value → Shared → Prop} {s : Shared} (h : wpAny M A t Q (fun _ _ => False) s) (hQ : ∀ a s, Q a s → Q' a s) : wpAny M A t Q' E s := wpAny_mono h hQ fun _ _ z => False.elim z
theorem compLoop_any {prog : Program} {w : World} {A : Around} {R : Result → Shared → Prop} {s : Shared} {elt target iter : Expr} {ifs : List Expr} {scope : Scope} {pos : Pos} {it acc : Value} {env : Env} (I : Nat → Shared → Prop)
    (turn : ∀ n s, I n s → wpAny (model prog w) A (pyNext it) (fun r s₁ => match r with
      | none => R (.ok .next) s₁
      | some v => wpAny (model prog w) A (letOwnedTupleGo target it v) (fun _ s₁' => wpAny (model prog w) A (assign target env v) (fun _ s₂ =>
          wpAny (model prog w) A (forIn ifs true fun c r => if r = true then do let ok ← isTrue c env (eval c env); pure (ForInStep.yield ok) else pure (ForInStep.yield r)) (fun ok s₃ =>
            if ok = true then wpAny (model prog w) A (eval elt env) (fun x s₄ =>
              wpAny (model prog w) A (call (.builtin "list.append") [acc, x]) (fun _ s₅ => ∃ m, m < n ∧ I m s₅) (notedBy (model prog w) A env fun e s' => R (.error e) s') s₄) (notedBy (model prog w) A env fun e s' => R (.error e) s') s₃
            else ∃ m, m < n ∧ I m s₃) (notedBy (model prog w) A env fun e s' => R (.error e) s') s₂) (notedBy (model prog w) A env fun e s' => R (.error e) s') s₁') (notedBy (model prog w) A env fun e s' => R (.error e) s') s₁) (notedBy (model prog w) A env fun e s' => R (.error e) s') s)
    (n : Nat) (h : I n s) :
    codeAny (model prog w) A (.compLoop (.ListComp elt [⟨target, iter, ifs, 0⟩] scope pos) 0 it acc env) R s := by
  refine codeAny_loop rfl I (fun n s hI => ?_) n h
  show wpAny _ A ((compTurn (.ListComp elt [⟨target, iter, ifs, 0⟩] scope pos) 0 it acc env).onRaise (fun x => do noteFrame x env; theTreesLotGoes x)) _ _ s
  refine wpAny_noted ?_
  rw [compTurn_list]
  refine wpAny_bind (wpAny_standAt (wpAny_bind (wpAny_mono (turn n s hI) (fun r s₁ h₁ => ?_) fun _ _ h' => h')))
  cases r with
  | none => exact wpAny_pure h₁
  | some v =>
    refine wpAny_bind (wpAny_mono h₁ (fun _ s₁' h₁' => ?_) fun _ _ h' => h')
    refine wpAny_bind (wpAny_mono h₁' (fun _ s₂ h₂ => wpAny_bind (wpAny_mono h₂ (fun ok s₃ h₃ => ?_) fun _ _ h' => h')) fun _ _ h' => h')
    cases ok with
    | false => exact wpAny_pure ⟨rfl, h₃⟩
    | true =>
      exact wpAny_bind (wpAny_bind (wpAny_mono h₃ (fun x s₄ h₄ => wpAny_bind (wpAny_mono h₄ (fun _ s₅ h₅ => wpAny_pure (wpAny_pure ⟨rfl, h₅⟩)) fun _ _ h' => h')) fun _ _ h' => h'))

section
variable {X : Cx}
noncomputable def tLc (wi : TI) (g : TG) (tt : TT) (te : TE) (vs : List Nat) : TE := fun σ H Q => wi σ H fun J H1 => ∀ D, H1 D = none → ∃ W : Nat → Nat → Hp → Prop, (∃ m, W 0 m (upd H1 D (.lst []))) ∧ ∀ i m H, W i m H →
  (J.stop i H ∧ Q (.ref D) H) ∨ (J.go i H ∧ ∃ Nx : Hp → Prop, (∀ H', Nx H' → ∃ m', m' < m ∧ W (i + 1) m' H') ∧ ∀ x H', J.yld i H x H' → g x (wipe σ vs) H' fun σ2 H2 => wipe σ2 vs = wipe σ vs ∧ tt σ2 H2 fun b H3 =>
    if b = true then te σ2 H3 fun y H4 => ∃ acc, H4 D = some (.lst acc) ∧ acc.length < sizeLine ∧ Nx (upd H4 D (.lst (acc ++ [y]))) else Nx H3)
theorem lc_core {pins : List (Addr × Obj)} {s : Shared} {σ : St} {H : Hp} {Q : VK} {elt tg iter : Expr} {ifs : List Expr} {scope : Scope} {own : List (Str × Nat)} {pos pos' : Pos} {wi : TI} {g : TG} {tt : TT} {te : TE} {use : Option (Value → Sem Unit)} {Qf : Value → Shared → Prop}
    (hc : X.calm = true) (hN : X.N.Nodup) (I : Inv X pins σ H s) (hi : PI X tg iter wi) (ok : BlkOk X.N X.env.scope scope own)
    (hg : ∀ (s : Shared) (H : Hp) (C : Addr) (cl : List (Str × Addr)) (fp : List Addr), PG (X.blk s H scope (compEnvC scope cl C X.env) fp) tg g) (ht : ∀ (s : Shared) (H : Hp) (C : Addr) (cl : List (Str × Addr)) (fp : List Addr), PTs (X.blk s H scope (compEnvC scope cl C X.env) fp) ifs tt)
    (he : ∀ (s : Shared) (H : Hp) (C : Addr) (cl : List (Str × Addr)) (fp : List Addr), PE (X.blk s H scope (compEnvC scope cl C X.env) fp) elt te) (hs : ∀ x, foldedSetIterable iter X.env x = pure x)
    (h : tLc wi g tt te (own.map (·.2)) σ H Q)
    (hRR : ∀ D C s' m H', Inv X pins σ H' s' → Q (.ref D) H' → s'.heap.Ns C m → FpOk X pins H' C → compPost (model X.prog X.w) X.A X.xe use Qf (.ref D) C (.ok .next) s') :
    wpAny (model X.prog X.w) X.A (comprehension (.ListComp elt [⟨tg, iter, ifs, 0⟩] scope pos) scope X.env pos' (newList []) false (eval iter X.env) use) Qf X.xe s := by
  have hfree : ∀ y ∈ scope.names, y.2 = .free → ∃ c, X.env.cells.lookup y.1 = some c := fun y hy e => by
    rcases ok.free y hy e with k | k
    · exact I.ok.has _ (.inl k)
    · exact I.ok.has _ (.inr k)
  refine wpAny_comprehension_free (use := use) rfl hs (closure_ok hfree) ok.kind (fun y hy e => by rw [ok.uniq y hy, e])
    (thn (hi pins s σ H _ I h) fun xv s1 hx => thn hx fun itv s2 h2 => ?_)
  obtain ⟨it, fp, tn, J, H2, e, I2, T, st2, f2, q⟩ := h2
  subst e
  refine wpAny_newObj_type (newEnv_comp ?_) (by show 0 ≤ sizeLine; decide)
  generalize hD : s2.heap.objs.size = D
  have hDn : H2 D = none := I2.hok.fresh (Nat.le_of_eq hD)
  obtain ⟨W, ⟨m0, w0⟩, turn⟩ := q D hDn
  -- the new list
  generalize hs3 : ({ s2 with heap := s2.heap.push { cls := .type "list", data := .seq ([] : List Value).toArray } } : Shared) = s3
  have I3 : Inv X pins σ (upd H2 D (.lst [])) s3 := by
    rw [← hs3]
    refine I2.laid (t' := s2.toks) (fun b o e => Heap.get?_push_of_some _ e) (Nat.le_of_eq hD) ⟨Nat.zero_le _, [], 0, .nil, ?_⟩
    rw [← hD]
    exact Heap.get?_push_size _ rfl
  have h3 : s3.heap = s2.heap.push { cls := .type "list", data := .seq ([] : List Value).toArray } := by rw [← hs3]
  have sz : ∀ b ∈ fp, b < s2.heap.objs.size := fun b hb => by
    obtain ⟨o, e, _⟩ := T.obj _ _ st2 b hb
    exact Heap.lt_size e
  have f3 : ∀ b ∈ fp, FpOk X pins (upd H2 D (.lst [])) b ∧ b < s3.heap.objs.size := fun b hb => by
    have hlt := sz b hb
    refine ⟨⟨?_, (f2 b hb).2⟩, by rw [h3, Heap.size_push]; exact Nat.lt_succ_of_lt hlt⟩
    rw [upd_ne (by rw [← hD]; exact Nat.ne_of_lt hlt)]
    exact (f2 b hb).1
  have st3 : tn 0 s3.heap := T.keep _ _ _ st2 fun b _ o e => by rw [h3]; exact Heap.get?_push_of_some _ e
  have I4 := block_start I3 ok hN f3
  have pg := hg s3 (upd H2 D (.lst [])) s3.heap.objs.size (cellsFrom (s3.heap.objs.size + 1) scope.names (cloFrom X.env.cells scope.names [])) fp
  have pt := ht s3 (upd H2 D (.lst [])) s3.heap.objs.size (cellsFrom (s3.heap.objs.size + 1) scope.names (cloFrom X.env.cells scope.names [])) fp
  have pe := he s3 (upd H2 D (.lst [])) s3.heap.objs.size (cellsFrom (s3.heap.objs.size + 1) scope.names (cloFrom X.env.cells scope.names [])) fp
  show codeAny _ _ (.compStart (.ListComp elt [⟨tg, iter, ifs, 0⟩] scope pos) 0 (.ref it) (.ref D) (compEnvC scope (cellsFrom (s3.heap.objs.size + 1) scope.names (cloFrom X.env.cells scope.names [])) s3.heap.objs.size X.env)) (compPost (model X.prog X.w) X.A X.xe use Qf (.ref D) s3.heap.objs.size) { s3 with heap := pushCells (s3.heap.push { cls := .type "dict", data := .dict #[] }) scope.names }
  have nfp : ∀ b ∈ fp, (upd H2 D (.lst [])) b = none := fun b hb => (f3 b hb).1.1
  generalize hce : compEnvC scope (cellsFrom (s3.heap.objs.size + 1) scope.names (cloFrom X.env.cells scope.names [])) s3.heap.objs.size X.env = ce at I4 pg pt pe ⊢
  have cL : ce.locals = s3.heap.objs.size := by subst hce; rfl
  generalize hH3 : upd H2 D (.lst []) = H3 at I3 I4 pg pt pe w0 nfp f3
  generalize hs4 : ({ s3 with heap := pushCells (s3.heap.push { cls := .type "dict", data := .dict #[] }) scope.names } : Shared) = s4 at I4 ⊢
  have st4 : tn 0 s4.heap := T.keep _ _ _ st3 fun b _ o e => by rw [← hs4]; exact pushCells_keeps _ _ _ _ (Heap.get?_push_of_some _ e)
  have stat : ∀ {σ' : St} {H' : Hp} {s' : Shared}, Inv (X.blk s3 H3 scope ce fp) [] σ' H' s' → (∀ b ∈ fp, H' b = none) → ∀ b ∈ fp, FpOk (X.blk s3 H3 scope ce fp) [] H' b := fun {σ' H' s'} I' hn b hb =>
    ⟨hn b hb, (I'.ok.exf b hb).1, I'.ok.exfs b hb, .inl hb, fun x c e => (I'.ok.exf b hb).2 x c e, fun p hp => absurd (show p ∈ ([] : List (Addr × Obj)) ++ [] from hp) (by simp)⟩
  have loop : codeAny (model X.prog X.w) X.A (.compLoop (.ListComp elt [⟨tg, iter, ifs, 0⟩] scope pos) 0 (.ref it) (.ref D) ce) (compPost (model X.prog X.w) X.A X.xe use Qf (.ref D) s3.heap.objs.size) s4 := by
    refine compLoop_any (fun n s' => ∃ i H', Inv (X.blk s3 H3 scope ce fp) [] (wipe σ (own.map (·.2))) H' s' ∧ tn i s'.heap ∧ (∀ b ∈ fp, H' b = none) ∧ W i n H') ?_ m0 ⟨0, H3, I4, st4, nfp, w0⟩
    rintro n s5 ⟨i, H5, I5, st5, n5, w5⟩
    rcases turn i n H5 w5 with ⟨stop, qq⟩ | ⟨go, Nx, hNx, step⟩
    · have td := T.done (X.blk s3 H3 scope ce fp) rfl rfl rfl hc i [] s5 _ H5 (fun _ _ => False) I5 (stat I5 n5) st5 stop
      refine thnF td fun r s6 hzz => ?_
      obtain ⟨hr, I6⟩ := hzz
      subst hr
      -- back in the def's context
      have I7 : Inv X pins σ H5 s6 := I3.call' (ch := fp) I6.os I6.base I6.hok I6.bare fun b hb => ⟨(f3 b hb).1.2.2.2.1, (f3 b hb).1.2.1, (f3 b hb).1.2.2.2.2.1, (f3 b hb).1.2.2.2.2.2⟩
      have nC : H5 s3.heap.objs.size = none := by
        have z : H5 ce.locals = none := I6.free
        rw [cL] at z
        exact z
      obtain ⟨m, hn, _⟩ := I6.loc
      have hn : s6.heap.Ns ce.locals m := hn
      rw [cL] at hn
      exact hRR D s3.heap.objs.size s6 m H5 I7 qq hn (I3.fpOk (Nat.le_refl _) nC)
    · have ti := T.item (X.blk s3 H3 scope ce fp) rfl rfl rfl hc i [] s5 _ H5 (fun _ _ => False) I5 (stat I5 n5) st5 go
      refine thnF ti fun r s6 hzz => ?_
      obtain ⟨u, hr, h6⟩ := hzz
      subst hr
      refine thnF h6 fun _ s7 hzz => ?_
      obtain ⟨x, H7, I7, r7, y7, st7, n7⟩ := hzz
      have I7' := I7.pinned (stat I7 n7) (T.obj _ _ st7)
      refine thnF (pg _ s7 _ H7 x u _ I7' r7 (step x H7 y7)) fun _ s8 hzz => ?_
      obtain ⟨σ8, H8, I8, hw8, q8⟩ := hzz
      refine thnF (pt _ s8 σ8 H8 _ I8 q8) fun b s9 hzz => ?_
      obtain ⟨H9, I9, q9⟩ := hzz
      -- the turn's end
      have fin : ∀ {s' : Shared} {H' : Hp}, Inv (X.blk s3 H3 scope ce fp) ([] ++ pinsAt fp s7.heap) σ8 H' s' → Nx H' → ∃ m, m < n ∧ ∃ i H', Inv (X.blk s3 H3 scope ce fp) [] (wipe σ (own.map (·.2))) H' s' ∧ tn i s'.heap ∧ (∀ b ∈ fp, H' b = none) ∧ W i m H' := fun {s' H'} I' nx => by
        obtain ⟨m', hm, w'⟩ := hNx H' nx
        have pin' : ∀ b ∈ fp, ∀ o, s7.heap.get? b = some o → s'.heap.get? b = some o ∧ H' b = none := fun b hb o e =>
          let z := I'.pin (b, o) (List.mem_append_right _ (List.mem_append_right _ (mem_pinsAt hb e)))
          ⟨z.1, z.2.1⟩
        have hl : (wipe σ (own.map (·.2))).length = σ8.length := by rw [← hw8, wipe_length]
        refine ⟨m', hm, i + 1, H', (I'.unpinned (pins := [])).weak hl (fun j v e => ?_), T.keep _ _ _ st7 fun b hb o e => (pin' b hb o e).1, fun b hb => ?_, w'⟩
        · rw [← hw8] at e
          exact (wipe_some e).1
        · obtain ⟨o, e, _⟩ := T.obj _ _ st7 b hb
          exact (pin' b hb o e).2
      cases b with
      | false =>
        simp only [Bool.false_eq_true, if_false] at q9 ⊢
        exact fin I9 q9
      | true =>
        simp only [if_true] at q9 ⊢
        refine thnF (pe _ s9 σ8 H9 _ I9 q9) fun z s10 hzz => ?_
        obtain ⟨yv, H10, I10, r10, acc, hD10, hz10, nx⟩ := hzz
        exact app_ok (X := X.blk s3 H3 scope ce fp) I10 hD10 hz10 r10 fun s11 I11 => fin I11 nx
  exact codeAny_compStart_list loop (T.self X.A 0 _ _ _ st4 loop)
theorem pe_lc {elt tg iter : Expr} {ifs : List Expr} {scope : Scope} {own : List (Str × Nat)} {pos : Pos} {wi : TI} {g : TG} {tt : TT} {te : TE} (hc : X.calm = true) (hN : X.N.Nodup) (hi : PI X tg iter wi) (ok : BlkOk X.N X.env.scope scope own)
    (hg : ∀ (s : Shared) (H : Hp) (C : Addr) (cl : List (Str × Addr)) (fp : List Addr), PG (X.blk s H scope (compEnvC scope cl C X.env) fp) tg g) (ht : ∀ (s : Shared) (H : Hp) (C : Addr) (cl : List (Str × Addr)) (fp : List Addr), PTs (X.blk s H scope (compEnvC scope cl C X.env) fp) ifs tt)
    (he : ∀ (s : Shared) (H : Hp) (C : Addr) (cl : List (Str × Addr)) (fp : List Addr), PE (X.blk s H scope (compEnvC scope cl C X.env) fp) elt te) (hs : ∀ x, foldedSetIterable iter X.env x = pure x) :
    PE X (.ListComp elt [⟨tg, iter, ifs, 0⟩] scope pos) (tLc wi g tt te (own.map (·.2))) := by
  intro pins s σ H Q I h
  rw [eval_ListComp]
  refine lc_core hc hN I hi ok hg ht he hs h fun D C s' m H' I' q hn f => ⟨m, hn, fun h'' sb => ?_⟩
  obtain ⟨f0, f1, f2, f3, f4, f5⟩ := f
  exact ⟨.ref D, H', I'.turned (t' := s'.toks) (fun b o hb e => (sb.2 b hb).trans e) f0 f1 f3 f4 f5, rfl, q⟩
theorem ps_setLc {i : Nat} {y : Str} {py : Pos} {elt tg iter : Expr} {ifs : List Expr} {scope : Scope} {own : List (Str × Nat)} {pos spos : Pos} {wi : TI} {g : TG} {tt : TT} {te : TE} (hc : X.calm = true) (hN : X.N.Nodup) (hy : X.N[i]? = some y) (hyl : X.env.scope.names.lookup y = some .local)
    (hsw : swapsWith (.ListComp elt [⟨tg, iter, ifs, 0⟩] scope pos) (some (.Name y py)) spos.line X.env = pure true) (hi : PI X tg iter wi) (ok : BlkOk X.N X.env.scope scope own)
    (hg : ∀ (s : Shared) (H : Hp) (C : Addr) (cl : List (Str × Addr)) (fp : List Addr), PG (X.blk s H scope (compEnvC scope cl C X.env) fp) tg g) (ht : ∀ (s : Shared) (H : Hp) (C : Addr) (cl : List (Str × Addr)) (fp : List Addr), PTs (X.blk s H scope (compEnvC scope cl C X.env) fp) ifs tt)
    (he : ∀ (s : Shared) (H : Hp) (C : Addr) (cl : List (Str × Addr)) (fp : List Addr), PE (X.blk s H scope (compEnvC scope cl C X.env) fp) elt te) (hs : ∀ x, foldedSetIterable iter X.env x = pure x) :
    PS X (.Assign [.Name y py] (.ListComp elt [⟨tg, iter, ifs, 0⟩] scope pos) spos) (tAsg (tLc wi g tt te (own.map (·.2))) (gName i)) := by
  intro pins s σ H D I h
  rw [exec_Assign_Name_used _ _ _ _ hsw]
  refine wpAny_bind (wpAny_standAt (wpAny_bind ?_))
  show wpAny _ X.A (do let _ ← comprehension (.ListComp elt [⟨tg, iter, ifs, 0⟩] scope pos) scope X.env (firstIterPos [⟨tg, iter, ifs, 0⟩] pos) (newList []) false (eval iter X.env) (some (assign (.Name y py) X.env))) _ _ s
  have h : tLc wi g tt te (own.map (·.2)) σ H (fun x H1 => gName i x σ H1 D.nx) := h
  refine wpAny_bind (thn (lc_core (Qf := fun _ s' => SP X pins D .next s') hc hN I hi ok hg ht he hs h fun L C s' m H' I' q hn f => ?_) fun _ s' hq => wpAny_pure (wpAny_pure hq))
  show wpAny _ _ (assign (.Name y py) X.env (.ref L)) _ _ _
  refine wpAny_assign_Name (store_ok2 (v := V.ref L) I' hN hy (.inl hyl) rfl (fun s2 I2 hzz => ?_) (.inr hyl))
  obtain ⟨a, sb, ha⟩ := hzz
  obtain ⟨f0, f1, f2, f3, f4, f5⟩ := f
  have haC : C ≠ a := by
    rcases ha with z | z
    · rw [z]; exact f1
    · exact fun e => f4 y a z e.symm
  refine ⟨m, hn.sameBut sb haC, fun h3 sb3 => ?_⟩
  exact ⟨_, H', I2.turned (t' := s2.toks) (fun b o hb e => (sb3.2 b hb).trans e) f0 f1 f3 f4 f5, q⟩
theorem sw_true {elt : Expr} {gs : List Comprehension} {scope : Scope} {pos py : Pos} {y : Str} {l : Nat} {env : Env} (hk : env.scope.kind = .function) (hy : env.scope.names.lookup y = some .local) (hl : (py.line == pos.line) = true)
    (ha : (scope.names.any fun (n, k) => n == y && (k == .local || k == .cell)) = false) : swapsWith (.ListComp elt gs scope pos) (some (.Name y py)) l env = pure true := by
  have ky : env.kindOf y = some .local := hy
  have hb : env.blockKind = .function := by unfold Env.blockKind; rw [hk]; rfl
  unfold swapsWith
  rw [hb]
  simp only [ky, ha]
  show pure ((ScopeKind.function == ScopeKind.function && some NameKind.local == some NameKind.local && (py.line == pos.line)) && !false) = _
  rw [hl]
  rfl
end
theorem lc_range {lo : Int} {n : Nat} {g : TG} {tt : TT} {te : TE} {vs : List Nat} {σ : St} {H1 : Hp} {D : Addr} {Qd : Hp → Prop} (Pv : Nat → Hp → Prop) (h0 : Pv 0 (upd H1 D (.lst [])))
    (hs : ∀ i H, i < n → Pv i H → g (.int (lo + i)) (wipe σ vs) H fun σ2 H2 => wipe σ2 vs = wipe σ vs ∧ tt σ2 H2 fun b H3 =>
      if b = true then te σ2 H3 fun y H4 => ∃ acc, H4 D = some (.lst acc) ∧ acc.length < sizeLine ∧ Pv (i + 1) (upd H4 D (.lst (acc ++ [y]))) else Pv (i + 1) H3) (hd : ∀ H, Pv n H → Qd H) :
    ∃ W : Nat → Nat → Hp → Prop, (∃ m, W 0 m (upd H1 D (.lst []))) ∧ ∀ i m H, W i m H →
      ((Itr lo n).stop i H ∧ Qd H) ∨ ((Itr lo n).go i H ∧ ∃ Nx : Hp → Prop, (∀ H', Nx H' → ∃ m', m' < m ∧ W (i + 1) m' H') ∧ ∀ x H', (Itr lo n).yld i H x H' → g x (wipe σ vs) H' fun σ2 H2 => wipe σ2 vs = wipe σ vs ∧ tt σ2 H2 fun b H3 =>
        if b = true then te σ2 H3 fun y H4 => ∃ acc, H4 D = some (.lst acc) ∧ acc.length < sizeLine ∧ Nx (upd H4 D (.lst (acc ++ [y]))) else Nx H3) := by
  refine ⟨fun i m H => m = n - i ∧ i ≤ n ∧ Pv i H, ⟨n, by simp, Nat.zero_le _, h0⟩, ?_⟩
  rintro i m H ⟨rfl, hi, p⟩
  by_cases hlt : i < n
  · refine .inr ⟨hlt, Pv (i + 1), fun H' p' => ⟨n - (i + 1), by omega, rfl, hlt, p'⟩, fun x H' y => ?_⟩
    obtain ⟨e, y⟩ := y
    subst e y
    exact hs i _ hlt p
  · have e : i = n := by omega
    subst e
    exact .inl ⟨Nat.le_refl _, hd H p⟩
theorem lc_tup {K : PySem.W.Frag} {a : Addr} {xs : List V} {g : TG} {tt : TT} {te : TE} {vs : List Nat} {σ : St} {H1 : Hp} {D : Addr} {Qd : Hp → Prop} (Pv : Nat → Hp → Prop) (h0 : Pv 0 (upd H1 D (.lst []))) (hl : ∀ i H, i ≤ xs.length → Pv i H → SqT K H a xs)
    (hs : ∀ i x H, xs[i]? = some x → Pv i H → g x (wipe σ vs) H fun σ2 H2 => wipe σ2 vs = wipe σ vs ∧ tt σ2 H2 fun b H3 =>
      if b = true then te σ2 H3 fun y H4 => ∃ acc, H4 D = some (.lst acc) ∧ acc.length < sizeLine ∧ Pv (i + 1) (upd H4 D (.lst (acc ++ [y]))) else Pv (i + 1) H3) (hd : ∀ H, Pv xs.length H → Qd H) :
    ∃ W : Nat → Nat → Hp → Prop, (∃ m, W 0 m (upd H1 D (.lst []))) ∧ ∀ i m H, W i m H →
      ((Itt K a).stop i H ∧ Qd H) ∨ ((Itt K a).go i H ∧ ∃ Nx : Hp → Prop, (∀ H', Nx H' → ∃ m', m' < m ∧ W (i + 1) m' H') ∧ ∀ x H', (Itt K a).yld i H x H' → g x (wipe σ vs) H' fun σ2 H2 => wipe σ2 vs = wipe σ vs ∧ tt σ2 H2 fun b H3 =>
        if b = true then te σ2 H3 fun y H4 => ∃ acc, H4 D = some (.lst acc) ∧ acc.length < sizeLine ∧ Nx (upd H4 D (.lst (acc ++ [y]))) else Nx H3) := by
  refine ⟨fun i m H => m = xs.length - i ∧ i ≤ xs.length ∧ Pv i H, ⟨xs.length, by simp, Nat.zero_le _, h0⟩, ?_⟩
  rintro i m H ⟨rfl, hi, p⟩
  have q := hl i H hi p
  by_cases hlt : i < xs.length
  · refine .inr ⟨⟨xs, xs[i], q, by simp [hlt]⟩, Pv (i + 1), fun H' p' => ⟨xs.length - (i + 1), by omega, rfl, hlt, p'⟩, fun x H' y => ?_⟩
    obtain ⟨e, y⟩ := y
    subst e
    exact hs i x _ (y xs q) p
  · have e : i = xs.length := by omega
    subst e
    exact .inl ⟨⟨xs, q, Nat.le_refl _⟩, hd H p⟩
noncomputable def blkC (N : List Str) (sc scope : Scope) (own : List (Str × Nat)) : Bool :=
  decide (scope.kind = .function) && (scope.names.all fun y => decide (scope.names.lookup y.1 = some y.2)) && (own.all fun p => decide (N[p.2]? = some p.1)) &&
    (scope.names.all fun y => decide (y.2 = .free → sc.names.lookup y.1 = some .cell ∨ sc.names.lookup y.1 = some .free)) && (scope.names.all fun y => decide (y.2 = .local ∨ y.2 = .cell → y.1 ∈ own.map (·.1) ∨ y.1 ∉ N))
theorem blkOk_by {N : List Str} {sc scope : Scope} {own : List (Str × Nat)} (h : blkC N sc scope own = true) : BlkOk N sc scope own := by
  unfold blkC at h
  simp only [Bool.and_eq_true, List.all_eq_true, decide_eq_true_eq] at h
  exact ⟨h.1.1.1.1, h.1.1.1.2, h.1.1.2, h.1.2, h.2⟩
end L2

namespace L2
open PySem PySem.Spec PyProof.Rows

section
variable {prog : Program} {w : World} {A : Around} {R : Result → Shared → Prop} {s : Shared} {elt t0 i0 t1 i1 : Expr} {ifs0 ifs1 : List Expr} {scope : Scope} {pos : Pos} {it acc : Value} {env : Env}
end

section
variable {X : Cx}
end
end L2

namespace L2
open PySem PySem.Spec PyProof.Rows

section
variable {κ : Type} [DecidableEq κ]
end


section
variable {P : Program} {w : World} {H : Hp} {h : Heap} {a : Addr}
end

section
variable {X : Cx} {pins : List (Addr × Obj)} {σ : St} {H : Hp} {s : Shared} {a : Addr} {y v : V} {u r : Value} {o : Option V} {A : Around} {E : Value → Shared → Prop}

end

section
variable {X : Cx} {pins : List (Addr × Obj)} {σ : St} {H : Hp} {s : Shared} {a : Addr} {kvs : List (Key × V)} {k : Key} {u : Value} {A : Around} {E : Value → Shared → Prop}
end
noncomputable def NoSl (i : Expr) : Prop := ∀ ov iv, subscripted i false ov iv = operate [ov, iv] (getItem ov iv)
theorem subD_of {prog : Program} {w : World} {A : Around} {E : Value → Shared → Prop} {s : Shared} {env : Env} {value slice : Expr} {pos : Pos} {T id : String} {Q : Value → Shared → Prop}
    (hl : typeLookup (.type T) "__getitem__" = pure (some (.builtin id))) (hs : NoSl slice)
    (h : wpAny (model prog w) A (eval value env) (fun o s₁ => wpAny (model prog w) A (eval slice env) (fun i s₂ => s₂.TypeIs o T ∧ wpAny (model prog w) A (getItem o i) Q E s₂) E s₁) E s) :
    wpAny (model prog w) A (eval (.Subscript value slice pos) env) Q E s := by
  refine Subscript_ (wpAny_mono h (fun o s₁ h₁ => wpAny_mono h₁ (fun i s₂ h₂ => ?_) fun _ _ x => x) fun _ _ x => x)
  obtain ⟨hT, h₂⟩ := h₂
  unfold subscriptTail
  refine wpAny_bind ?_
  rw [getitemInPython_of_ne hT.not_modules]
  refine wpAny_bind (wpAny_specialOf hT hl ?_)
  have fin : wpAny (model prog w) A (subscripted slice false o i) (fun r s₃ => wpAny (model prog w) A (letTemporaryGo value o r >>= fun _ => pure r) Q E s₃) E s₂ := by
    rw [hs o i]
    exact wpAny_operating (wpAny_mono h₂ (fun r s₃ h₃ => wpAny_bind (wpAny_letTemporaryGo (wpAny_pure h₃))) fun _ _ x => x)
  first
    | exact wpAny_pure (wpAny_bind fin)
    | exact wpAny_bind (wpAny_pure (wpAny_bind fin))
    | exact wpAny_bind fin

section
variable {X : Cx} {o i e value : Expr} {pos pos' tpos : Pos} {td ty tv : TE}
end


section
variable {X : Cx} {pos : Pos}
end

structure M2 (X : Cx) (o : Expr) (m : Str) (apos : Pos) (e f : Expr) (cpos : Pos) : Prop where
  base : attributeBase o m X.env (eval o X.env) = eval o X.env
  few : ((backTo cpos (starEach [e, f] X.env)).all (fun x => !x.1) && (backToKw cpos (keywordEach [] X.env)).all (fun x => x.1.isSome)
    && decide (([e, f] : List Expr).length + ([] : List Keyword).length + (if ([] : List Keyword).isEmpty then 0 else 1) < 30)) = true
  line : (apos.endLine == cpos.line) = true
  trees : backTo cpos (starEach [e, f] X.env) = [(false, eval e X.env), (false, eval f X.env)]

section
variable {X : Cx} {pins : List (Addr × Obj)} {σ : St} {H : Hp} {s : Shared} {a : Addr} {y d : V} {u r : Value} {o : Option V} {A : Around} {E : Value → Shared → Prop}
end

section
variable {X : Cx} {o e f : Expr} {apos cpos : Pos} {td ty tx : TE}
end

section
variable {X : Cx} {pins : List (Addr × Obj)} {σ : St} {H : Hp} {s : Shared} {a : Addr} {kvs : List (Key × V)} {A : Around} {E : Value → Shared → Prop}
end


section
variable {X : Cx} {pins : List (Addr × Obj)} {σ : St} {H : Hp} {s : Shared} {a : Addr} {y : V} {u : Value} {A : Around} {E : Value → Shared → Prop}
end
end L2

namespace L2
open PySem PySem.Spec PyProof.Rows

section
variable {prog : Program} {w : World} {A : Around} {E : Value → Shared → Prop}
end

section
variable {X : Cx}
end
end L2

namespace L2
open PySem PySem.Spec PyProof.Rows

section
variable {X : Cx} {pins : List (Addr × Obj)} {σ : St} {H : Hp} {s : Shared} {h' : Heap}
theorem Inv.turnedL {t' : Nat} {ch : List Addr} (I : Inv X pins σ H s) (k : ∀ b o, b ∉ ch → s.heap.get? b = some o → h'.get? b = some o) (hf : ∀ b ∈ ch, FpOk X pins H b) : Inv X pins σ H { s with heap := h', toks := t' } := by
  have nit : ∀ b u, H b = some u → b ∉ ch := fun b u e z => by
    have q := (hf b z).1
    rw [q] at e; cases e
  refine I.step (g' := s.gens) (d' := s.drawn) (ch := ch) (fun b hb => ⟨(hf b hb).2.2.2.1, (hf b hb).2.1, (hf b hb).2.2.2.2.1, (hf b hb).2.2.2.2.2⟩) (fun b o _ _ hc e _ => k b o hc e) (fun b o _ _ hc e _ => ⟨o.slots, k b o hc e⟩)
    (fun _ _ _ _ n => n) (fun b o hc e => ⟨o, k b o hc e⟩) (fun _ _ e => e) (fun _ _ _ e => e) (fun b ps e => ⟨#[], by rw [e]; simp⟩) (fun m hm => ?_) (fun b u e => ?_) I.bare
  · obtain ⟨o, es, ep, ho, r⟩ := hm
    exact ⟨o, es, ep, k _ o (fun z => (hf _ z).2.1 rfl) ho, r⟩
  · refine (I.hok b u e).stay (fun c v hc q => k c v ?_ q) (fun _ q => q) fun _ _ q => q
    rcases hc with z | z
    · rw [z]; exact nit b u e
    · exact nit c _ z
theorem Inv.turnedNew {t' : Nat} {ch : List Addr} {T : Addr} {ob : HO} (I : Inv X pins σ H s) (k : ∀ b o, b ∉ ch → s.heap.get? b = some o → h'.get? b = some o) (hf : ∀ b ∈ ch, FpOk X pins H b) (hT : s.heap.objs.size ≤ T)
    (new : ObjOk X.prog X.w (upd H T ob) h' T ob) : Inv X pins σ (upd H T ob) { s with heap := h', toks := t' } := by
  have hn : H T = none := I.hok.fresh hT
  have nit : ∀ b u, H b = some u → b ∉ ch := fun b u e z => by
    have q := (hf b z).1
    rw [q] at e; cases e
  refine I.step (g' := s.gens) (d' := s.drawn) (ch := ch) (fun b hb => ⟨(hf b hb).2.2.2.1, (hf b hb).2.1, (hf b hb).2.2.2.2.1, (hf b hb).2.2.2.2.2⟩) (fun b o _ _ hc e _ => k b o hc e) (fun b o _ _ hc e _ => ⟨o.slots, k b o hc e⟩)
    (fun b o _ e n => ?_) (fun b o hc e => ⟨o, k b o hc e⟩) (fun b xs e => ?_) (fun b o u e => ?_) (fun b ps e => ⟨#[], ?_⟩) (fun m hm => ?_) (fun b u e => ?_) I.bare
  · rw [upd_ne (Nat.ne_of_lt (Nat.lt_of_lt_of_le (Heap.lt_size e) hT))]; exact n
  · rw [upd_ne (ne_of_none e hn)]; exact e
  · rw [upd_ne (ne_of_none e hn)]; exact e
  · rw [upd_ne (ne_of_none e hn), e]; simp
  · obtain ⟨o, es, ep, ho, r⟩ := hm
    exact ⟨o, es, ep, k _ o (fun z => (hf _ z).2.1 rfl) ho, r⟩
  · by_cases hb : b = T
    · subst hb
      rw [upd_same] at e
      cases e
      exact new
    · rw [upd_ne hb] at e
      refine (I.hok b u e).stay (fun c v hc q => k c v ?_ q) (fun c q => by rw [upd_ne (ne_of_none q hn)]; exact q) fun c xs q => by rw [upd_ne (ne_of_none q hn)]; exact q
      rcases hc with z | z
      · rw [z]; exact nit b u e
      · exact nit c _ z

end
section
variable {X : Cx}
theorem pi_one {tg : Expr} {pins : List (Addr × Obj)} {σ : St} {H : Hp} {s : Shared} {R : It → Hp → Prop} {J : It} {tn : Nat → Heap → Prop} {tk : Nat} (I : Inv X pins σ H s) (o : Obj)
    (T : Turn X.prog X.w X.K tg J [s.heap.objs.size] s.heap.objs.size tn) (st : tn 0 (s.heap.push o)) (q : R J H) : PIE X pins σ tg R (.ref s.heap.objs.size) { s with heap := s.heap.push o, toks := tk } := by
  refine ⟨s.heap.objs.size, [s.heap.objs.size], tn, J, H, rfl, I.kept fun b ob e => Heap.get?_push_of_some _ e, T, st, fun b hb => ?_, q⟩
  have e : b = s.heap.objs.size := by simpa using hb
  subst e
  exact I.fpOk (Nat.le_refl _) (I.hok.fresh (Nat.le_refl _))
end

section
variable {X : Cx} {tg : Expr}
end
section
variable {X : Cx} {tg : Expr}
end

noncomputable def Its (x : Str) : It := ⟨fun i _ => i < x.cps.size, fun i H v H' => H' = H ∧ ∃ c, x.cps[i]? = some c ∧ v = .str ⟨#[c]⟩, fun i _ => x.cps.size ≤ i⟩
theorem turn_str {P : Program} {w : World} {K : PySem.W.Frag} {tg : Expr} (it : Addr) (x : Str) (t : Tok) (ty : String) (hty : ty = "str_ascii_iterator" ∨ ty = "str_iterator") :
    Turn P w K tg (Its x) [it] it (fun i h => h.IsStrIter it ty x t i) where
  mem := by simp
  obj := fun i h st b hb => by
    have e : b = it := by simpa using hb
    subst e
    obtain ⟨o, e, c, d⟩ := st
    exact ⟨o, e, fun v z => by rw [d] at z; cases z⟩
  keep := fun i h h' st k => let ⟨o, ho, r⟩ := st; ⟨o, k it (by simp) o ho, r⟩
  item := by
    intro X hP hw hK hc i pins s σ H E I hf st hg
    subst hP hw hK
    obtain ⟨f0, f1, f2, f3, f4, f5⟩ := hf it (by simp)
    have W : Walks X.prog X.w X.A it [it] [it] x.cps.size (SignAt x) (fun i h => h.IsStrIter it ty x t i) := by
      rcases hty with e | e
      · rw [e]; exact Walks.strAscii (I.ok.hd hc) it x t
      · rw [e]; exact Walks.strWide (I.ok.hd hc) it x t
    have hno : ["enumerate", "zip", "dict_itemiterator", "dict_reverseitemiterator", "odict_iterator", "itertools.zip_longest", "itertools.pairwise"].contains ty = false := by
      rcases hty with e | e
      · rw [e]; decide
      · rw [e]; decide
    refine W.item i s _ _ hg st fun v h' tk hv st' kk => ?_
    obtain ⟨c, u, hcx, rfl⟩ := hv
    have I1 : Inv X pins σ H { s with heap := h', toks := tk } := I.turned (fun b o hb e => kk b o (by simpa using hb) e) f0 f1 f3 f4 f5
    obtain ⟨oi, e, cc, dd⟩ := id st'
    exact ⟨_, rfl, go_of (s := { s with heap := h', toks := tk }) e cc dd hno ⟨.str ⟨#[c]⟩, H, I1, ⟨u, rfl⟩, ⟨rfl, c, hcx, rfl⟩, st', fun b hb => (hf b hb).1⟩⟩
  done := by
    intro X hP hw hK hc i pins s σ H E I hf st hg
    subst hP hw hK
    obtain ⟨f0, f1, f2, f3, f4, f5⟩ := hf it (by simp)
    have hx : x.cps[i]? = none := Array.getElem?_eq_none hg
    rcases hty with e | e
    · rw [e] at st
      exact wpAny_pyNext_ascii_end (I.ok.hd hc) st hx fun h' eb => ⟨rfl, I.turned (t' := s.toks) (fun b o hb e => eb b o hb e) f0 f1 f3 f4 f5⟩
    · rw [e] at st
      exact wpAny_pyNext_wide_end (I.ok.hd hc) st hx fun h' eb => ⟨rfl, I.turned (t' := s.toks) (fun b o hb e => eb b o hb e) f0 f1 f3 f4 f5⟩
  self := fun A i s Q E st h => by
    rcases hty with e | e
    · rw [e] at st; exact wpAny_pyIter_striter_ascii st h
    · rw [e] at st; exact wpAny_pyIter_striter_wide st h
noncomputable def iStr (te : TE) : TI := fun σ H R => te σ H fun v H1 => ∃ x, v = .str x ∧ R (Its x) H1
theorem pi_str {X : Cx} {tg e : Expr} {te : TE} (he : PE X e te) : PI X tg e (iStr te) := by
  intro pins s σ H R I h
  refine thn (he pins s σ H _ I h) fun v s1 hzz => ?_
  obtain ⟨y, H1, I1, r1, x, ex, q⟩ := hzz
  subst ex
  obtain ⟨t, rfl⟩ := r1
  cases ha : x.cps.all (· < 128)
  · exact wpAny_pyIter_wide ha (pi_one (tk := s1.toks) I1 _ (turn_str _ x t "str_iterator" (.inr rfl)) ⟨_, Heap.get?_push_size _ rfl, rfl, rfl⟩ q)
  · exact wpAny_pyIter_ascii ha (pi_one (tk := s1.toks) I1 _ (turn_str _ x t "str_ascii_iterator" (.inl rfl)) ⟨_, Heap.get?_push_size _ rfl, rfl, rfl⟩ q)

section
variable {prog : Program} {w : World} {A : Around} {E : Value → Shared → Prop} {s : Shared}
end

section
variable {X : Cx} {pins : List (Addr × Obj)} {σ : St} {H : Hp} {s : Shared} {d : Addr} {o : Obj}
end

section
variable {P : Program} {w : World} {K : PySem.W.Frag} {tg : Expr} {d : Addr} {o : Obj} {es : Array DictEntry} {ep : Nat}
end

section
variable {X : Cx} {tg e : Expr} {td : TE} {apos cpos : Pos}
end

theorem boot_zip5 : bootBuiltins "zip" = some (.type "zip") := by decide +kernel
noncomputable def Itz (K : PySem.W.Frag) (a b : Addr) : It :=
  ⟨fun i H => ∃ (xs ys : List V) (x y : V), SqL K H a xs ∧ SqL K H b ys ∧ xs[i]? = some x ∧ ys[i]? = some y,
    fun i H v H' => ∃ T x y, v = .ref T ∧ H T = none ∧ H' = upd H T (.tup [x, y]) ∧ (∀ xs, SqL K H a xs → xs[i]? = some x) ∧ ∀ ys, SqL K H b ys → ys[i]? = some y,
    fun i H => ∃ xs ys : List V, SqL K H a xs ∧ SqL K H b ys ∧ (xs.length ≤ i ∨ ys.length ≤ i)⟩
theorem turn_zip {P : Program} {w : World} {K : PySem.W.Frag} {elts : List Expr} {kk : Nat} {tpos : Pos} {a b z TI TO i1 i2 : Addr} (D : ZipApart z TI TO i1 i2 a b) :
    Turn P w K (.Tuple elts kk tpos) (Itz K a b) [z, TI, TO, i1, i2] z (fun i h => IsZip h z TI TO .none ∧ IsPair h TI (.ref i1) (.ref i2) ∧ (∃ x y, IsPair h TO x y) ∧ h.IsListIter i1 a i ∧ h.IsListIter i2 b i) where
  mem := by simp
  obj := fun i h st c hc => by
    obtain ⟨hz, hTI, ⟨x, y, hTO⟩, ⟨o1, e1, _, d1⟩, ⟨o2, e2, _, d2⟩⟩ := st
    have e' : c = z ∨ c = TI ∨ c = TO ∨ c = i1 ∨ c = i2 := by simpa using hc
    rcases e' with q | q | q | q | q
    · rw [q]; exact ⟨_, hz, fun v q => nomatch q⟩
    · rw [q]; exact ⟨_, hTI, fun v q => nomatch q⟩
    · rw [q]; exact ⟨_, hTO, fun v q => nomatch q⟩
    · rw [q]; exact ⟨o1, e1, fun v q => by rw [d1] at q; cases q⟩
    · rw [q]; exact ⟨o2, e2, fun v q => by rw [d2] at q; cases q⟩
  keep := fun i h h' st k => by
    obtain ⟨hz, hTI, ⟨x, y, hTO⟩, h1, h2⟩ := st
    exact ⟨k z (by simp) _ hz, k TI (by simp) _ hTI, ⟨x, y, k TO (by simp) _ hTO⟩, h1.at fun o q => k i1 (by simp) o q, h2.at fun o q => k i2 (by simp) o q⟩
  item := by
    intro X hP hw hK hc i pins s σ H E I hf st hg
    subst hP hw hK
    obtain ⟨hz, hTI, ⟨x0, y0, hTO⟩, h1, h2⟩ := st
    obtain ⟨xs, ys, x, y, hqx, hqy, hx, hy⟩ := hg
    obtain ⟨its, rv, p, _⟩ := I.list hqx
    obtain ⟨its2, rv2, p2, _⟩ := I.list hqy
    obtain ⟨u, hu, ru⟩ := rv.get hx
    obtain ⟨u2, hu2, ru2⟩ := rv2.get hy
    have hzl : z < s.heap.objs.size := Heap.lt_size hz
    refine wpAny_pyNext_zip_item D hz hTI hTO h1 h2 p.isList p2.isList (x := u) (y := u2) (by simpa using hu) (by simpa using hu2) fun h' z' TO' h1' h2' hT hsz hk => ?_
    refine ⟨_, rfl, wpAny_letOwnedTupleGo_zip (s := { s with heap := h' }) z' fun h'' z'' sb => ?_⟩
    have hT2 : h''.get? s.heap.objs.size = some { cls := .type "tuple", data := .seq #[u, u2] } := (sb.2 _ (Nat.ne_of_gt hzl)).trans hT
    have new : ObjOk X.prog X.w (upd H s.heap.objs.size (.tup [x, y])) h'' s.heap.objs.size (.tup [x, y]) :=
      ⟨by show 2 ≤ sizeLine; decide, [u, u2], .cons ru (.cons ru2 .nil), ⟨_, hT2, rfl, _, rfl⟩⟩
    have I1 : Inv X pins σ (upd H s.heap.objs.size (.tup [x, y])) { s with heap := h'' } :=
      I.turnedNew (t' := s.toks) (ch := [z, TI, TO, i1, i2]) (fun c o hb q => (sb.2 c (fun q' => hb (by simp [q']))).trans (hk c o (fun q' => hb (by simp [q'])) (fun q' => hb (by simp [q'])) (fun q' => hb (by simp [q'])) (fun q' => hb (by simp [q'])) q)) hf (Nat.le_refl _) new
    refine ⟨.ref s.heap.objs.size, _, I1, rfl, ⟨_, x, y, rfl, I.hok.fresh (Nat.le_refl _), rfl, fun l hl => by rw [I.list_inj hl hqx]; exact hx, fun l hl => by rw [I.list_inj hl hqy]; exact hy⟩, ⟨z'', ?_, ⟨u, u2, ?_⟩, ?_, ?_⟩, fun c hcm => ?_⟩
    · exact (sb.2 _ D.TIz).trans (hk _ _ D.TIz D.TITO D.TIi1 D.TIi2 hTI)
    · exact (sb.2 _ D.TOz).trans TO'
    · exact h1'.at fun o q => (sb.2 _ D.i1z).trans q
    · exact h2'.at fun o q => (sb.2 _ D.i2z).trans q
    · have hlt : c < s.heap.objs.size := by
        have e' : c = z ∨ c = TI ∨ c = TO ∨ c = i1 ∨ c = i2 := by simpa using hcm
        rcases e' with q | q | q | q | q
        · rw [q]; exact hzl
        · rw [q]; exact Heap.lt_size hTI
        · rw [q]; exact Heap.lt_size hTO
        · rw [q]; obtain ⟨_, e1, _⟩ := h1; exact Heap.lt_size e1
        · rw [q]; obtain ⟨_, e2, _⟩ := h2; exact Heap.lt_size e2
      rw [upd_ne (Nat.ne_of_lt hlt)]
      exact (hf c hcm).1
  done := by
    intro X hP hw hK hc i pins s σ H E I hf st hg
    subst hP hw hK
    obtain ⟨hz, hTI, ⟨x0, y0, hTO⟩, h1, h2⟩ := st
    obtain ⟨xs, ys, hqx, hqy, hend⟩ := hg
    obtain ⟨its, rv, p, _⟩ := I.list hqx
    obtain ⟨its2, rv2, p2, _⟩ := I.list hqy
    have l1 := rv.length
    have l2 := rv2.length
    have he : its.toArray[i]? = none ∨ its2.toArray[i]? = none := by
      rcases hend with q | q
      · exact .inl (by simp; omega)
      · exact .inr (by simp; omega)
    exact wpAny_pyNext_zip_end (I.ok.hd hc) D hz hTI hTO h1 h2 p.isList p2.isList he fun h' hk => ⟨rfl, I.turnedL (t' := s.toks) (ch := [z, TI, TO, i1, i2]) (fun c o hb q =>
      hk c o (fun q' => hb (by simp [q'])) (fun q' => hb (by simp [q'])) (fun q' => hb (by simp [q'])) (fun q' => hb (by simp [q'])) q) hf⟩
  self := fun A i s Q E st h => wpAny_pyIter_zip st.1 h
noncomputable def iZip (K : PySem.W.Frag) (ta : TA) : TI := fun σ H R => ta σ H fun vs H1 => ∃ a b xs ys, vs = [.ref a, .ref b] ∧ SqL K H1 a xs ∧ SqL K H1 b ys ∧ R (Itz K a b) H1
theorem pi_zip {X : Cx} {e e2 : Expr} {ta : TA} {p pos tpos : Pos} {elts : List Expr} {kk : Nat} (hg : Gl X "zip") (hm : X.mg "zip" = none) (ha : PA X [e, e2] ta)
    (hs : starEach [e, e2] X.env = (false, eval e X.env) :: starEach [e2] X.env) (hpl : (backTo pos (starEach [e2] X.env)).any (·.1) = false) :
    PI X (.Tuple elts kk tpos) (.Call (.Name "zip" p) [e, e2] [] pos) (iZip X.K ta) := by
  intro pins s σ H R I h
  refine Call_ (ld_blt I hg hm boot_zip5 (PyProof.Rows.callWith_type1 (thn (ha pos pins s σ H _ I h) fun us s1 hzz => ?_) hs hpl) (by decide) (by decide))
  obtain ⟨vs, H1, I1, r1, q1⟩ := hzz
  obtain ⟨a, b, xs, ys, ex, hqx, hqy, q⟩ := q1
  subst ex
  cases r1 with
  | cons r rr =>
    cases rr with
    | cons r' rr =>
      cases rr
      cases r
      cases r'
      obtain ⟨its, rv, p1, _⟩ := I1.list hqx
      obtain ⟨its2, rv2, p2, _⟩ := I1.list hqy
      have la : a < s1.heap.objs.size := p1.lt
      have lb : b < s1.heap.objs.size := p2.lt
      refine call_zip_2 p1.isList p2.isList fun h' hz hTI hTO h1 h2 hsz hk => wpAny_pyIter_zip hz ?_
      have I2 : Inv X pins σ H1 { s1 with heap := h' } := I1.kept (t' := s1.toks) hk
      refine ⟨s1.heap.objs.size + 4, [s1.heap.objs.size + 4, s1.heap.objs.size + 2, s1.heap.objs.size + 3, s1.heap.objs.size, s1.heap.objs.size + 1], _, _, H1, rfl, I2, turn_zip (PySem.W.ktu_apart s1.heap.objs.size a b la lb), ⟨hz, hTI, ⟨_, _, hTO⟩, h1, h2⟩, fun c hcm => ?_, q⟩
      have e' : c = s1.heap.objs.size + 4 ∨ c = s1.heap.objs.size + 2 ∨ c = s1.heap.objs.size + 3 ∨ c = s1.heap.objs.size ∨ c = s1.heap.objs.size + 1 := by simpa using hcm
      have hle : s1.heap.objs.size ≤ c := by
        rcases e' with z | z | z | z | z
        · rw [z]; exact Nat.le_add_right _ _
        · rw [z]; exact Nat.le_add_right _ _
        · rw [z]; exact Nat.le_add_right _ _
        · rw [z]; exact Nat.le_refl _
        · rw [z]; exact Nat.le_add_right _ _
      exact I1.fpOk hle (I1.hok.fresh hle)
end L2

section 
namespace Bits
open PySem PyProof.Rows

theorem bitOr_pp {x y : Int} (hx : 0 ≤ x) (hy : 0 ≤ y) : Builtin.bitOr x y = ((x.toNat ||| y.toNat : Nat) : Int) := by
  have e := nat_or_add_and x.toNat y.toNat
  rw [bitOr_and, bitAnd_pp hx hy]
  omega
end Bits
end 

section 
namespace TL
open PySem PySem.Builtin PySem.Builtin.Str PySem.StrLaws

noncomputable abbrev tl (x : Str) : List Nat := x.cps.toList
theorem len_tl (x : Str) : x.length = (tl x).length := by simp [tl, Str.length]
theorem ext_tl {x y : Str} (h : tl x = tl y) : x = y := Str.ext' (Array.toList_inj.mp h)
theorem tl_append (x y : Str) : tl (x ++ y) = tl x ++ tl y := by
  show (x ++ y).cps.toList = _
  rw [Str.cps_append, Array.toList_append]
noncomputable def joinL (S : List Nat) : List (List Nat) → List Nat
  | [] => []
  | [p] => p
  | p :: q :: r => p ++ (S ++ joinL S (q :: r))
theorem tl_join (y : Str) : ∀ parts : List Str, tl (Str.join y parts) = joinL (tl y) (parts.map tl)
  | [] => rfl
  | [_] => rfl
  | x :: z :: r => by
    show tl (x ++ y ++ Str.join y (z :: r)) = tl x ++ (tl y ++ joinL (tl y) ((z :: r).map tl))
    rw [tl_append, tl_append, tl_join y (z :: r), List.append_assoc]
theorem join_eq (y : Str) (parts : List Str) : Txt.join y parts = Str.join y parts := glued_eq_join y parts
noncomputable def numL (n : Nat) : List Nat := (Nat.toDigits 10 n).map Char.toNat
theorem tl_num (n : Nat) : tl (Str.ofString (toString ((n : Nat) : Int))) = numL n := PySem.W.KIN.signs_num n
theorem numL_len {n k : Nat} (hk : 0 < k) (h : n < 10 ^ k) : (numL n).length ≤ k := by
  have z := PyProof.Rows.toString_length_le (v := (n : Int)) (by omega) hk (by
    have e : ((10 : Int) ^ k) = ((10 ^ k : Nat) : Int) := by
      first
        | exact (Int.natCast_pow 10 k).symm
        | simp
    rw [e]
    first | exact Int.ofNat_lt.mpr h | omega)
  rw [len_tl, tl_num] at z
  exact z
end TL
end 

namespace L2
open PySem PySem.Spec PyProof.Rows

theorem strs_of_vals {ys : List Str} {us : List Value} (h : Vals (ys.map V.str) us) : StrsAre us ys := by
  induction ys generalizing us with
  | nil => cases h; exact .nil
  | cons y ys ih =>
    cases h with
    | cons r t =>
      obtain ⟨k, rfl⟩ := r
      exact .cons y k (ih t)

section
variable {X : Cx} {pins : List (Addr × Obj)} {σ : St} {H : Hp} {s : Shared} {Q : VK}
end

section
variable {X : Cx}
theorem mt_join : MtR X "str.join" (fun x xs H Q => ∃ a p, ∃ ys : List Str, x = .str a ∧ xs = [.ref p] ∧ (SqL X.K H p (ys.map V.str) ∨ SqT X.K H p (ys.map V.str)) ∧
    (ys.map (·.length)).sum + ys.length * a.length ≤ 16777216 ∧ Q (.str (Txt.join a ys)) H) := by
  intro pins s σ H x xs v us Q I rx rs h
  obtain ⟨a, p, ys, rfl, rfl, hp, hz, h⟩ := h
  obtain ⟨t, rfl⟩ := rx
  cases rs with
  | cons r1 rs =>
    cases rs
    cases r1
    rcases hp with hp | hp
    · obtain ⟨its, r, ⟨o, n, ho, hc, _, hd⟩, _⟩ := I.list hp
      exact PyProof.Rows.join_list (items := its.toArray) ⟨o, ho, hc, n, hd⟩ (by rw [List.toList_toArray]; exact strs_of_vals r) hz fun t' k => ⟨.str _, H, I.tok k, ⟨t', rfl⟩, h⟩
    · obtain ⟨its, r, ht, _⟩ := I.tuple hp
      exact PyProof.Rows.join_tuple (items := its.toArray) ht (by rw [List.toList_toArray]; exact strs_of_vals r) hz fun t' k => ⟨.str _, H, I.tok k, ⟨t', rfl⟩, h⟩

end

section
variable {X : Cx} {o e : Expr} {to te : TE}
noncomputable def tM1 (r : V → List V → Hp → VK → Prop) (to te : TE) : TE := fun σ H Q => to σ H fun x H1 => (∃ a, x = .str a) ∧ te σ H1 fun y H2 => r x [y] H2 Q
theorem pe_m1 {id : String} {name : Str} {apos pos : Pos} {r : V → List V → Hp → VK → Prop} (slot : Slot "str" name id) (ty : typeOf (.builtin id) = pure (.type "method_descriptor")) (rule : MtR X id r) (ho : PE X o to) (he : PE X e te)
    (hs : starEach [e] X.env = [(false, eval e X.env)]) (hbase : attributeBase o name X.env (eval o X.env) = eval o X.env) (hline : (apos.endLine == pos.line) = true) :
    PE X (.Call (.Attribute o name apos) [e] [] pos) (tM1 r to te) := by
  intro pins s σ H Q I h
  refine PySem.Call_method1 hbase hs hline (thn (ho pins s σ H _ I h) fun v s1 hzz => ?_)
  obtain ⟨x, H1, I1, r1, q1⟩ := hzz
  obtain ⟨⟨a, rfl⟩, q1⟩ := q1
  obtain ⟨t, rfl⟩ := _root_.id r1
  refine ⟨"str", _, F.plainAttrs_str, slot, ty, typeIs_str _ _ _, (fun _ e => nomatch e), Calls.callWith_builtin rfl (Calls.evalArgs_plain (Calls.spliced_cons ?_))⟩
  refine thn (he pins s1 σ H1 _ I1 q1) fun u s2 hzz => ?_
  obtain ⟨y, H2, I2, r2, q2⟩ := hzz
  exact Calls.spliced_nil (rule pins s2 σ H2 _ [y] _ [u] Q I2 r1 (.cons r2 .nil) q2)

theorem pe_join {apos pos : Pos} (ho : PE X o to) (he : PE X e te) (hs : starEach [e] X.env = [(false, eval e X.env)]) (hbase : attributeBase o "join" X.env (eval o X.env) = eval o X.env) (hline : (apos.endLine == pos.line) = true) :
    PE X (.Call (.Attribute o "join" apos) [e] [] pos) (tM1 (fun x xs H Q => ∃ a p, ∃ ys : List Str, x = .str a ∧ xs = [.ref p] ∧ (SqL X.K H p (ys.map V.str) ∨ SqT X.K H p (ys.map V.str)) ∧
      (ys.map (·.length)).sum + ys.length * a.length ≤ 16777216 ∧ Q (.str (Txt.join a ys)) H) to te) :=
  pe_m1 F.slot_str_join F.type_str_join mt_join ho he hs hbase hline
end
end L2

namespace L2
open PySem PySem.Spec PyProof.Rows

section
variable {X : Cx}
end

end L2

namespace Att
open PySem PySem.W PySem.Calls PyProof.Rows

section
variable {prog : Program} {w : World} {A : Around} {E : Value → Shared → Prop} {s : Shared} {K : Frag}

end
end Att

namespace L2
open PySem PySem.Spec PyProof.Rows

theorem vals_ints {vs : List Value} {ns : List Int} (h : IntsAre vs ns) : Vals (ns.map V.int) vs := by
  induction h with
  | nil => exact .nil
  | cons n t _ ih => exact .cons ⟨t, rfl⟩ ih

end L2

namespace L2
open PySem PySem.Spec PyProof.Rows

end L2


namespace L2
open PySem PySem.Spec PyProof.Rows

noncomputable def defArgs (s : Stmt) : Arguments := match s with
  | .FunctionDef _ a _ _ _ _ _ _ _ _ => a
  | _ => { posonlyargs := [], args := [], vararg := none, kwonlyargs := [], kw_defaults := [], kwarg := none, defaults := [] }
noncomputable def defBody (s : Stmt) : List Stmt := match s with
  | .FunctionDef _ _ b _ _ _ _ _ _ _ => b
  | _ => []
noncomputable def defScope (s : Stmt) : Scope := match s with
  | .FunctionDef _ _ _ _ _ _ sc _ _ _ => sc
  | _ => { kind := .function, names := [], isGenerator := false, isCoroutine := false }

noncomputable abbrev CX0 : CXT := fun _ _ _ _ _ _ => False
noncomputable abbrev E0 : XK := fun _ _ _ => False
theorem pass0 {X : Cx} : Passes CX0 X E0 := fun _ _ _ _ _ _ _ h => h.elim

structure Fun (K : PySem.W.Frag) (x qual : Str) (st : Stmt) (f : Addr) (fd : FuncData) : Prop where
  ex : ∃ (oc : Value) (od : Option Addr) (kV doc pm : Value) (an : Option Addr) (cdv ct : Value) (osl : Array (Option Value)),
    fd = PySem.W.fnOf x qual (defArgs st) (defBody st) (defScope st) .none kV doc pm an cdv ct ∧ K.lookup f = some ⟨oc, od, .func fd, osl⟩ ∧ PySem.W.codeIn K cdv qual = true
  kp : PySem.W.keepIn K (.ref f) = true
section
variable {P : Program} {w : World} {K : PySem.W.Frag} {mg : Str → Option Value} {base : Heap}
theorem Fun.ok {x qual : Str} {st : Stmt} {f : Addr} {fd : FuncData} {N ps : List Str} {k : Nat} {sp : Sp} (F : Fun K x qual st f fd) (S : FnScope N ps (defScope st)) (len : ∀ vs H Q E, sp vs H Q E → vs.length = ps.length)
    (hbody : ∀ (cdv : Value) (A : Around) (outer : List Env) (s : Shared) (H : Hp) (vs : List V) (Q : VK) (E : XK), Room k (A.deeper (envOfC qual (defScope st) s.heap.objs.size f cdv)) → sp vs H Q E →
      ∃ t, PSs (cxOf CX0 P w K mg base N qual (defScope st) f cdv A outer s H E).nox (defBody st) t ∧ t { nx := fun _ H' => Q .non H', rt := Q } (start N vs) H) : FnOk P w K mg base CX0 (k + 1) f fd ps sp := by
  obtain ⟨oc, od, kV, doc, pm, an, cdv, ct, osl, rfl, lk, hcd⟩ := F.ex
  refine fn_of lk hcd S len fun A outer s H vs Q E hr hsp => ?_
  obtain ⟨t, h, q⟩ := hbody cdv A outer s H vs Q E hr hsp
  exact ⟨t, h.nox, q⟩
theorem Fun.binds {x qual : Str} {st : Stmt} {f : Addr} {fd : FuncData} {ps : List Str} (F : Fun K x qual st f fd)
    (h : ∀ (kV doc pm : Value) (an : Option Addr) (cdv ct : Value) (us : List Value), us.length = ps.length → bindArgs (PySem.W.fnOf x qual (defArgs st) (defBody st) (defScope st) .none kV doc pm an cdv ct) ⟨us, []⟩ = pure (ps.zip us)) : Binds K fd ps [] := by
  obtain ⟨oc, od, kV, doc, pm, an, cdv, ct, osl, rfl, lk, hcd⟩ := F.ex
  exact .all (h kV doc pm an cdv ct)
theorem fun_mk {x qual : Str} {st : Stmt} {f : Addr} {oc : Value} {od an : Option Addr} {osl : Array (Option Value)} {kV doc pm cdv ct : Value} (l : K.lookup f = some ⟨oc, od, .func (PySem.W.fnOf x qual (defArgs st) (defBody st) (defScope st) .none kV doc pm an cdv ct), osl⟩)
    (c : PySem.W.codeIn K cdv qual = true) (k : PySem.W.keepIn K (.ref f) = true) : Fun K x qual st f (PySem.W.fnOf x qual (defArgs st) (defBody st) (defScope st) .none kV doc pm an cdv ct) := ⟨⟨oc, od, kV, doc, pm, an, cdv, ct, osl, rfl, l, c⟩, k⟩
end
section
variable {X : Cx}
theorem pv (i : Nat) {x : Str} {pos : Pos} (hN : X.N[i]? = some x) (hv : Vis X.env.scope x) (hd : (x == ("__debug__" : Str)) = false)
    (hcd : (x == ("__classdict__" : Str)) = false) : PE X (.Name x pos) (tVar i) := pe_var hN hv hd hcd
end

theorem iteF {A B : Prop} (h : B) : if false = true then A else B := by
  rw [if_neg Bool.false_ne_true]
  exact h
theorem iteT {A B : Prop} (h : A) : if true = true then A else B := by
  rw [if_pos rfl]
  exact h
theorem ite2 {c A B : Prop} [Decidable c] (h1 : c → A) (h2 : ¬ c → B) : if c then A else B := by
  by_cases h : c
  · rw [if_pos h]
    exact h1 h
  · rw [if_neg h]
    exact h2 h
noncomputable def Same (H H' : Hp) : Prop := ∀ b o, H b = some o → H' b = some o
theorem Same.refl (H : Hp) : Same H H := fun _ _ h => h
theorem Same.trans {H H1 H2 : Hp} (a : Same H H1) (b : Same H1 H2) : Same H H2 := fun c o h => b c o (a c o h)
theorem Same.seq {K : PySem.W.Frag} {H H' : Hp} {a : Addr} {xs : List V} (e : Same H H') (h : SqL K H a xs) : SqL K H' a xs := by
  rcases h with (h | ⟨o, h⟩) | h
  · exact .inl (.inl (e _ _ h))
  · exact .inl (.inr ⟨o, e _ _ h⟩)
  · exact .inr h

section
variable {κ : Type} [DecidableEq κ]
end
end L2

namespace LX
open PySem PySem.Spec PyProof.Rows L2
noncomputable def TabK (K : PySem.W.Frag) (a : Addr) (D : List (Str × V)) : Prop :=
  (a == sysModules) = false ∧ ∃ o es ep, K.lookup a = some o ∧ o.ExactDict ∧ o.data = .dict es ep ∧ KTD.Rows RelV es.toList D
section
variable {prog : Program} {w : World} {A : Around} {E : Value → Shared → Prop} {s : Shared} {a : Addr} {D : List (Str × V)} {k : Str} {tk : Tok}
theorem TabK.tab {K : PySem.W.Frag} {h : Heap} (T : TabK K a D) (kin : K.In h) : KTD.TabOf RelV h a D := by
  obtain ⟨lo, o, es, ep, ho, r⟩ := T
  exact ⟨lo, o, es, ep, kin a o ho, r⟩
theorem tab_find {Q : Option Value → Shared → Prop} (T : KTD.TabOf RelV s.heap a D)
    (yes : ∀ v u, KTD.datumAt k D = some v → RelV v u → Q (some u) { s with toks := s.toks + 1 })
    (no : KTD.datumAt k D = none → Q none { s with toks := s.toks + 1 }) : wpAny (model prog w) A (dictGet a (.str k tk)) Q E s := by
  obtain ⟨lo, o, es, ep, ho, ex, hd, rows⟩ := T
  have all : (es.all fun e => isExactStrKey e.key) = true := by
    have z := rows.exact
    cases es
    simpa using z
  have look : Q (findBy (fun k v => v.isStr k) es k) { s with toks := s.toks + 1 } := by
    have z : findBy (fun k v => v.isStr k) es k = (es.toList.find? fun e => e.key.isStr k).map (·.val) := by
      cases es
      simp [findBy]
    rw [z]
    cases c : KTD.datumAt k D with
    | none => rw [rows.find_none c]; exact no c
    | some v =>
      obtain ⟨u, hu, r⟩ := rows.find_some c
      rw [hu]
      exact yes v u c r
  unfold dictGet
  try with_reducible refine wpAny_holding ?_
  refine wpAny_bind (wpAny_pyHash_str (wpAny_bind (KTD.kt_dictFind_strs (s := { s with toks := s.toks + 1 }) ho hd all ?_)))
  rw [findBy_of_findIdx?] at look
  cases c : es.findIdx? fun e => e.key.isStr k with
  | none =>
    rw [c] at look
    exact wpAny_pure look
  | some i =>
    rw [c] at look
    exact wpAny_bind (wpAny_dictEntries (s := { s with toks := s.toks + 1 }) ho hd (wpAny_pure look))
theorem tab_type (T : KTD.TabOf RelV s.heap a D) : s.TypeIs (.ref a) "dict" := by
  obtain ⟨lo, o, es, ep, ho, ex, _⟩ := T
  exact ⟨o, ho, ex.1⟩
theorem tab_item {v : V} {Q : Value → Shared → Prop} (T : KTD.TabOf RelV s.heap a D) (d : KTD.datumAt k D = some v) (h : ∀ u, RelV v u → Q u { s with toks := s.toks + 1 }) :
    wpAny (model prog w) A (getItem (.ref a) (.str k tk)) Q E s := by
  unfold getItem
  try with_reducible refine wpAny_holding ?_
  refine wpAny_bind (wpAny_sequenceKey (tab_type T) (by decide) ?_)
  refine wpAny_bind (wpAny_callSpecial?_slot (name := Str.ofString "__getitem__") (tab_type T) slot_dict_getitem ?_)
  refine wpAny_call_entry slot_dict_getitem (tab_type T) entry_dict_getitem ?_ (args_dict_getitem _ _)
  refine wpAny_bind (m := dictGet a (.str k tk)) (tab_find T (fun v' u e r => ?_) fun no => ?_)
  · rw [d] at e
    cases e
    exact wpAny_pure ⟨u, rfl, wpAny_pure (h u r)⟩
  · rw [d] at no
    cases no
theorem tab_dflt {dv : V} {du : Value} {Q : Value → Shared → Prop} (T : KTD.TabOf RelV s.heap a D) (rd : RelV dv du)
    (h : ∀ u, RelV ((KTD.datumAt k D).getD dv) u → Q u { s with toks := s.toks + 1 }) : wpAny (model prog w) A (call (.builtin "dict.get") [.ref a, .str k tk, du]) Q E s := by
  refine call_meetsIn PySem.F.slot_dict_get (tab_type T) PySem.F.entry_dict_get (PySem.F.args_dict_get_3 _ _ _)
    (S := fun _ R s' => KTD.TabOf RelV s'.heap a D ∧ ∀ u, RelV ((KTD.datumAt k D).getD dv) u → R (.ok (.ret u)) { s' with toks := s'.toks + 1 }) (.of_wp fun A' R s' hzz => ?_) ⟨T, h⟩
  have T' := hzz.1
  have h' := hzz.2
  refine wpAny_bind (m := dictGet a (.str k tk)) (tab_find T' (fun v u e r => wpAny_pure ⟨u, rfl, h' u (by rw [e]; exact r)⟩) fun no => ?_)
  refine wpAny_bind (m := Builtin.Dict.missed a (.str k tk)) (wpAny_missed_other T'.1 (wpAny_pure ⟨du, rfl, h' du (by rw [no]; exact rd)⟩))
end
section
variable {X : Cx} {o i e f : Expr} {pos apos cpos : Pos} {td ty tx : TE}
noncomputable def tTab (K : PySem.W.Frag) (td ty : TE) : TE := fun σ H Q => td σ H fun x H1 => ty σ H1 fun y H2 => ∃ a k D v, x = .ref a ∧ y = .str k ∧ TabK K a D ∧ KTD.datumAt k D = some v ∧ Q v H2
theorem pe_tab (ho : PE X o td) (hi : PE X i ty) (hs : NoSl i) : PE X (.Subscript o i pos) (tTab X.K td ty) := by
  intro pins s σ H Q I h
  refine subD_of PySem.F.slot_dict_getitem.lookup hs (thn (ho pins s σ H _ I h) fun u s1 hzz => ?_)
  obtain ⟨x, H1, I1, rx, q1⟩ := hzz
  refine thn (hi pins s1 σ H1 _ I1 q1) fun iv s2 hzz => ?_
  obtain ⟨y, H2, I2, ry, q2⟩ := hzz
  obtain ⟨a, k, D, v, rfl, rfl, T, d, q⟩ := q2
  obtain rfl : u = Value.ref a := rx
  obtain ⟨t, rfl⟩ := ry
  have T2 := T.tab I2.kIn
  exact ⟨tab_type T2, tab_item T2 d fun u r => ⟨v, H2, I2.tok _, r, q⟩⟩
noncomputable def tTab2 (K : PySem.W.Frag) (td ty tx : TE) : TE := fun σ H Q => td σ H fun x H1 => ∃ a D, x = .ref a ∧ TabK K a D ∧ ty σ H1 fun y H2 => tx σ H2 fun z H3 => ∃ k, y = .str k ∧ Q ((KTD.datumAt k D).getD z) H3
theorem pe_tab2 (ho : PE X o td) (he : PE X e ty) (hf : PE X f tx) (m : M2 X o "get" apos e f cpos) : PE X (.Call (.Attribute o "get" apos) [e, f] [] cpos) (tTab2 X.K td ty tx) := by
  intro pins s σ H Q I h
  refine wpAny_Call_method m.base m.few m.line PySem.F.plainAttrs_dict PySem.F.slot_dict_get PySem.F.type_dict_get (thn (ho pins s σ H _ I h) fun u s1 hzz => ?_)
  obtain ⟨x, H1, I1, rx, q1⟩ := hzz
  obtain ⟨a, D, rfl, T, q1⟩ := q1
  obtain rfl : u = Value.ref a := rx
  have T1 := T.tab I1.kIn
  refine ⟨tab_type T1, fun b z => ?_, ?_⟩
  · cases z
    obtain ⟨lo, ob, es, ep, ho', ex, _⟩ := T1
    exact ⟨ob, ho', ex.2.1⟩
  rw [m.trees]
  refine Calls.callWith_builtin rfl (Calls.evalArgs_plain (Calls.spliced_cons (thn (he pins s1 σ H1 _ I1 q1) fun iv s2 hzz => ?_)))
  obtain ⟨y, H2, I2, ry, q2⟩ := hzz
  refine Calls.spliced_cons (thn (hf pins s2 σ H2 _ I2 q2) fun fv s3 hzz => Calls.spliced_nil ?_)
  obtain ⟨z, H3, I3, rz, k, ey, q3⟩ := hzz
  subst ey
  obtain ⟨t, rfl⟩ := ry
  exact tab_dflt (T.tab I3.kIn) rz fun u r => ⟨_, H3, I3.tok _, r, q3⟩
end
section
variable (P : Program) (w : World) (K : PySem.W.Frag) (mg : Str → Option Value) (base : Heap)
noncomputable def Can (f : Addr) (k : Nat) (ps : List Str) (sp : Sp) : Prop := PySem.W.keepIn K (.ref f) = true ∧ ∃ fd, Binds K fd ps [] ∧ FnOk P w K mg base CX0 k f fd ps sp
noncomputable def Fn (x : Str) (k : Nat) (ps : List Str) (sp : Sp) : Prop := ∃ f, mg x = some (.ref f) ∧ Can P w K mg base f k ps sp
end
theorem Can.mono {P : Program} {w : World} {K : PySem.W.Frag} {mg : Str → Option Value} {base : Heap} {f : Addr} {j k : Nat} {ps : List Str} {sp : Sp} (h : Can P w K mg base f j ps sp) (hk : j ≤ k) : Can P w K mg base f k ps sp := by
  obtain ⟨a, fd, b, c⟩ := h
  exact ⟨a, fd, b, c.mono hk⟩
theorem Fn.mono {P : Program} {w : World} {K : PySem.W.Frag} {mg : Str → Option Value} {base : Heap} {x : Str} {j k : Nat} {ps : List Str} {sp : Sp} (h : Fn P w K mg base x j ps sp) (hk : j ≤ k) : Fn P w K mg base x k ps sp := by
  obtain ⟨f, a, b⟩ := h
  exact ⟨f, a, b.mono hk⟩
section
variable {X : Cx} {k : Nat} {ps : List Str} {sp : Sp} {x : Str} {p pos : Pos} {e fe : Expr} {es : List Expr} {tf : TE} {t : TA}
noncomputable def tFn (sp : Sp) (t : TA) : TE := fun σ H Q => t σ H fun vs H1 => sp vs H1 Q E0
theorem pe_fn (F : Fn X.prog X.w X.K X.mg X.base x k ps sp) (hr : Room k X.A) (hg : Gl X x) (ha : PA X (e :: es) t) (hdb : (x == ("__debug__" : Str)) = false)
    (he : starEach (e :: es) X.env = (false, eval e X.env) :: starEach es X.env) (hpl : (backTo pos (starEach es X.env)).any (·.1) = false) :
    PE X (.Call (.Name x p) (e :: es) [] pos) (tFn sp t) := by
  obtain ⟨f, hm, hk, fd, hb, G⟩ := F
  intro pins s σ H Q I h
  refine pe_call G hr hg hm hk hb .nil pass0 ha hdb he hpl pins s σ H Q I ?_
  have e : (fun (vs : List V) (H1 : Hp) => sp (vs ++ []) H1 Q E0) = fun vs H1 => sp vs H1 Q E0 := by
    funext vs H1
    rw [List.append_nil]
  show t σ H (fun vs H1 => sp (vs ++ []) H1 Q E0)
  rw [e]
  exact h
noncomputable def tDyn (Can : Addr → Sp → Prop) (tf : TE) (t : TA) : TE := fun σ H Q => tf σ H fun x H1 => ∃ f sp, x = .ref f ∧ Can f sp ∧ t σ H1 fun vs H2 => sp vs H2 Q E0
theorem pe_dyn (hf : PE X fe tf) (hr : Room k X.A) (ha : PA X (e :: es) t)
    (hev : eval (.Call fe (e :: es) [] pos) X.env = (do callWith pos (← eval fe X.env) [] (backTo pos (starEach (e :: es) X.env)) (backToKw pos (keywordEach [] X.env))))
    (he : starEach (e :: es) X.env = (false, eval e X.env) :: starEach es X.env) (hpl : (backTo pos (starEach es X.env)).any (·.1) = false) :
    PE X (.Call fe (e :: es) [] pos) (tDyn (fun f sp => ∃ ps, LX.Can X.prog X.w X.K X.mg X.base f k ps sp) tf t) := by
  intro pins s σ H Q I h
  rw [hev]
  refine wpAny_bind (thn (hf pins s σ H _ I h) fun u s1 hzz => ?_)
  obtain ⟨x, H1, I1, rx, q⟩ := hzz
  obtain ⟨f, sp, rfl, ⟨ps, hk, fd, hb, G⟩, q⟩ := q
  obtain rfl : u = Value.ref f := rx
  refine PySem.W.callWith_K (h₀ := X.base) I.ok.mod.kin hk (thn (ha pos pins s1 σ H1 _ I1 q) fun us s2 hzz => ?_) he hpl
  obtain ⟨vs, H2, I2, r, q2⟩ := hzz
  refine ⟨I2.kIn, ?_⟩
  exact run_fn (dvs := []) G hr hb .nil pass0 I2 r (by rw [List.append_nil]; exact q2)
end
end LX

namespace LX
open PySem PySem.Spec PyProof.Rows L2
theorem b_and (a b : Nat) : Builtin.bitAnd (a : Int) (b : Int) = ((a &&& b : Nat) : Int) := by
  rw [bitAnd_pp (Int.natCast_nonneg a) (Int.natCast_nonneg b), Int.toNat_natCast, Int.toNat_natCast]
theorem b_or (a b : Nat) : Builtin.bitOr (a : Int) (b : Int) = ((a ||| b : Nat) : Int) := by
  rw [Bits.bitOr_pp (Int.natCast_nonneg a) (Int.natCast_nonneg b), Int.toNat_natCast, Int.toNat_natCast]
theorem xa_step {X Y x y v s : Nat} (e1 : X / 2 = x) (e2 : Y / 2 = y) (ih : x + 2 * y = v / 2 + s / 2) (m1 : X % 2 + 2 * (Y % 2) = v % 2 + s % 2) : X + 2 * Y = v + s := by omega
theorem xa_low (v s : Nat) : (v ^^^ s) % 2 + 2 * ((v &&& s) % 2) = v % 2 + s % 2 := by
  have a := Nat.testBit_xor v s 0
  have b := Nat.testBit_and v s 0
  simp only [Nat.testBit_zero] at a b
  exact (by decide +kernel : ∀ x y p q : _root_.Fin 2, decide (x.1 = 1) = (decide (p.1 = 1) ^^ decide (q.1 = 1)) → decide (y.1 = 1) = (decide (p.1 = 1) && decide (q.1 = 1)) → x.1 + 2 * y.1 = p.1 + q.1)
    ⟨_, Nat.mod_lt _ (by decide)⟩ ⟨_, Nat.mod_lt _ (by decide)⟩ ⟨_, Nat.mod_lt _ (by decide)⟩ ⟨_, Nat.mod_lt _ (by decide)⟩ a b
theorem xor_and : ∀ n v s : Nat, v ≤ n → (v ^^^ s) + 2 * (v &&& s) = v + s
  | 0, v, s, h => by
    obtain rfl : v = 0 := Nat.le_zero.mp h
    rw [Nat.zero_xor, Nat.zero_and, Nat.mul_zero, Nat.add_zero, Nat.zero_add]
  | n + 1, v, s, h => by
    by_cases z : v = 0
    · subst z
      rw [Nat.zero_xor, Nat.zero_and, Nat.mul_zero, Nat.add_zero, Nat.zero_add]
    · exact xa_step (Nat.xor_div_two) (Nat.and_div_two) (xor_and n (v / 2) (s / 2) (Nat.le_of_lt_succ (Nat.lt_of_lt_of_le (Nat.div_lt_self (Nat.pos_of_ne_zero z) (by decide)) h))) (xa_low v s)
theorem xx_int {X Y a b : Nat} (h : X + 2 * Y = a + b) : (a : Int) + (b : Int) - 2 * (Y : Int) = (X : Int) := by omega
theorem b_xor (a b : Nat) : Builtin.bitXor (a : Int) (b : Int) = ((a ^^^ b : Nat) : Int) := by
  rw [PyProof.Rows.bitXor_and, b_and]
  exact xx_int (xor_and a a b (Nat.le_refl _))
noncomputable def rN (g : Nat → Nat → Nat) : R2 := fun x y H Q => ∃ a b : Nat, x = .int a ∧ y = .int b ∧ Q (.int (g a b : Nat)) H
noncomputable def rNC (C : Nat → Nat → Prop) (g : Nat → Nat → Nat) : R2 := fun x y H Q => ∃ a b : Nat, x = .int a ∧ y = .int b ∧ C a b ∧ Q (.int (g a b : Nat)) H
theorem opN {X : Cx} {f : Value → Value → Sem Value} {g : Int → Int → Int} {n : Nat → Nat → Nat} (h : OpR X f (rI0 fun i j => .int (g i j))) (e : ∀ a b : Nat, g a b = (n a b : Nat)) : OpR X f (rN n) := by
  intro pins s σ H x y v u Q I rx ry q
  obtain ⟨a, b, rfl, rfl, q⟩ := q
  exact h pins s σ H _ _ v u Q I rx ry ⟨a, b, rfl, rfl, by show Q (.int (g a b)) H; rw [e]; exact q⟩
theorem opNC {X : Cx} {f : Value → Value → Sem Value} {C : Int → Int → Prop} {D : Nat → Nat → Prop} {g : Int → Int → Int} {n : Nat → Nat → Nat} (h : OpR X f (rI C fun i j => .int (g i j))) (c : ∀ a b : Nat, D a b → C a b) (e : ∀ a b : Nat, g a b = (n a b : Nat)) : OpR X f (rNC D n) := by
  intro pins s σ H x y v u Q I rx ry q
  obtain ⟨a, b, rfl, rfl, d, q⟩ := q
  exact h pins s σ H _ _ v u Q I rx ry ⟨a, b, rfl, rfl, c a b d, by show Q (.int (g a b)) H; rw [e]; exact q⟩
section
variable {X : Cx}
theorem n_and : OpR X (binaryOp .BitAnd) (rN fun a b => a &&& b) := opN op_and b_and
theorem n_or : OpR X (binaryOp .BitOr) (rN fun a b => a ||| b) := opN op_or b_or
theorem n_xor : OpR X (binaryOp .BitXor) (rN fun a b => a ^^^ b) := opN op_xor b_xor
theorem n_add : OpR X (binaryOp .Add) (rN fun a b => a + b) := opN op_add fun a b => by omega
theorem n_shr : OpR X (binaryOp .RShift) (rN fun a b => a / 2 ^ b) := by
  intro pins s σ H x y v u Q I rx ry q
  obtain ⟨a, b, rfl, rfl, q⟩ := q
  refine op_shr pins s σ H _ _ v u Q I rx ry ⟨a, b, rfl, rfl, Int.natCast_nonneg b, ?_⟩
  have e : ((a : Int) / 2 ^ (b : Int).toNat) = ((a / 2 ^ b : Nat) : Int) := by
    rw [Int.toNat_natCast]
    simp
  show Q (.int ((a : Int) / 2 ^ (b : Int).toNat)) H
  rw [e]
  exact q
noncomputable def Sm (a b : Nat) : Prop := a < 2 ^ 64 ∧ b ≤ 1000000
theorem n_shl : OpR X (binaryOp .LShift) (rNC Sm fun a b => a * 2 ^ b) := opNC op_shl (fun a b d => ⟨Int.natCast_nonneg b, by have := d.2; omega, by have := d.1; rw [Int.natAbs_natCast]; exact this⟩) fun a b => by
  rw [Int.toNat_natCast]
  simp
theorem n_mul : OpR X (binaryOp .Mult) (rNC (fun a _ => a < 2 ^ 64) fun a b => a * b) := opNC op_mul (fun a b d => .inl ⟨by have := Int.natCast_nonneg a; omega, by omega⟩) fun a b => by simp
theorem n_mod : OpR X (binaryOp .Mod) (rNC (fun _ b => 0 < b) fun a b => a % b) := opNC op_mod (fun a b d => by omega) fun a b => by simp
theorem n_div : OpR X (binaryOp .FloorDiv) (rNC (fun _ b => 0 < b ∧ b < 1073741824) fun a b => a / b) := opNC op_fdiv (fun a b d => ⟨by omega, by omega⟩) fun a b => by simp
theorem pn (k : Nat) {j pos} : PE X (.Constant (.int (k : Int)) j pos) (tC (.int (k : Nat))) := pe_int
end
section
variable {X : Cx} {e : Expr} {te : TE} {p p1 p2 : Pos} {c : Str} {j : Nat}
noncomputable def tFmt (c : Str) (te : TE) : TE := fun σ H Q => te σ H fun x H1 => ∃ i : Int, x = .int i ∧ i.natAbs.log2 < 1920 ∧ (c ++ (toString i : String)).length ≤ sizeLine ∧ Q (.str (c ++ (toString i : String))) H1
theorem empty_app (x : Str) : Str.empty ++ x = x := TL.ext_tl (by rw [TL.tl_append]; rfl)
theorem pe_fmt (he : PE X e te) (hc : c.length ≤ sizeLine) : PE X (.JoinedStr [.Constant (.str c) j p1, .FormattedValue e (-1) none p2] p) (tFmt c te) := by
  intro pins s σ H Q I h
  refine JoinedStr_many (joinParts_cons (Calls.Constant_str ⟨by rw [empty_app]; exact hc, ?_⟩))
  rw [empty_app]
  refine joinParts_cons (FormattedValue_plain (thn (he pins _ σ H _ (I.tok _) h) fun u s1 hzz => ?_))
  obtain ⟨x, H1, I1, rx, i, ex, hd, hz, q⟩ := hzz
  subst ex
  obtain ⟨t, rfl⟩ := rx
  refine formatField_int_small hd ⟨hz, ?_⟩
  exact joinParts_nil ⟨.str _, H1, I1.tok _, ⟨_, rfl⟩, q⟩ hz
end
noncomputable def LstAt (K : PySem.W.Frag) (H : Hp) (a : Addr) (xs : List V) : Prop :=
  Rd H a (.lst xs) ∨ ∃ (its : Array Value) (n : Nat), K.lookup a = some { cls := .type "list", data := .seq its n } ∧ its.size ≤ sizeLine ∧ Vals xs its.toList
theorem LstAt.sq {K : PySem.W.Frag} {H : Hp} {a : Addr} {xs : List V} (h : LstAt K H a xs) : SqL K H a xs := by
  rcases h with h | ⟨its, n, k, z, r⟩
  · exact .inl h
  · exact .inr ⟨_, its, n, k, rfl, rfl, rfl, z, r⟩
theorem LstAt.of {K : PySem.W.Frag} {H : Hp} {a : Addr} {xs : List V} (h : H a = some (.lst xs)) : LstAt K H a xs := .inl (.inl h)
theorem LstAt.there {X : Cx} {pins : List (Addr × Obj)} {σ : L2.St} {H : Hp} {s : Shared} {a : Addr} {xs : List V} (h : LstAt X.K H a xs) (I : Inv X pins σ H s) :
    ∃ (its : List Value) (n : Nat), Vals xs its ∧ s.heap.get? a = some { cls := .type "list", data := .seq its.toArray n } := by
  rcases h with h | ⟨its, n, k, z, r⟩
  · obtain ⟨_, its, n, r, e⟩ := h.ok I.hok
    exact ⟨its, n, r, e⟩
  · exact ⟨its.toList, n, r, by simpa using I.kIn a _ k⟩
noncomputable def rCatS (K : PySem.W.Frag) : R2 := fun x y H Q => ∃ l b xs zs, x = .ref l ∧ y = .ref b ∧ LstAt K H l xs ∧ LstAt K H b zs ∧ xs.length + zs.length ≤ sizeLine ∧ ∀ p, H p = none → Q (.ref p) (upd H p (.lst (xs ++ zs)))
theorem op_catS {X : Cx} : OpR X (binaryOp .Add) (rCatS X.K) := by
  intro pins s σ H x y v u Q I rx ry h
  obtain ⟨l, b, xs, zs, rfl, rfl, hH, hB, hz, q⟩ := h
  cases rx
  cases ry
  obtain ⟨its, n, r, e⟩ := hH.there I
  obtain ⟨its2, n2, r2, e2⟩ := hB.there I
  have hl := r.length
  have hl2 := r2.length
  refine PySem.P.add_list e e2 ?_ (by rw [List.size_toArray, List.size_toArray]; omega)
  have ea : its.toArray ++ its2.toArray = (its ++ its2).toArray := by simp
  rw [ea]
  exact ⟨.ref _, _, I.lnew (t' := s.toks) (r.append r2) (by rw [List.length_append]; omega), rfl, q _ I.fresh⟩
theorem lc_str {x : Str} {g : TG} {tt : TT} {te : TE} {vs : List Nat} {σ : L2.St} {H1 : Hp} {D : Addr} {Qd : Hp → Prop} (Pv : Nat → Hp → Prop) (h0 : Pv 0 (upd H1 D (.lst [])))
    (hs : ∀ i c H, x.cps[i]? = some c → Pv i H → g (.str ⟨#[c]⟩) (wipe σ vs) H fun σ2 H2 => wipe σ2 vs = wipe σ vs ∧ tt σ2 H2 fun b H3 =>
      if b = true then te σ2 H3 fun y H4 => ∃ acc, H4 D = some (.lst acc) ∧ acc.length < sizeLine ∧ Pv (i + 1) (upd H4 D (.lst (acc ++ [y]))) else Pv (i + 1) H3) (hd : ∀ H, Pv x.cps.size H → Qd H) :
    ∃ W : Nat → Nat → Hp → Prop, (∃ m, W 0 m (upd H1 D (.lst []))) ∧ ∀ i m H, W i m H →
      ((Its x).stop i H ∧ Qd H) ∨ ((Its x).go i H ∧ ∃ Nx : Hp → Prop, (∀ H', Nx H' → ∃ m', m' < m ∧ W (i + 1) m' H') ∧ ∀ v H', (Its x).yld i H v H' → g v (wipe σ vs) H' fun σ2 H2 => wipe σ2 vs = wipe σ vs ∧ tt σ2 H2 fun b H3 =>
        if b = true then te σ2 H3 fun y H4 => ∃ acc, H4 D = some (.lst acc) ∧ acc.length < sizeLine ∧ Nx (upd H4 D (.lst (acc ++ [y]))) else Nx H3) := by
  refine ⟨fun i m H => m = x.cps.size - i ∧ i ≤ x.cps.size ∧ Pv i H, ⟨x.cps.size, by simp, Nat.zero_le _, h0⟩, ?_⟩
  rintro i m H ⟨rfl, hi, p⟩
  by_cases hlt : i < x.cps.size
  · refine .inr ⟨hlt, Pv (i + 1), fun H' p' => ⟨x.cps.size - (i + 1), by omega, rfl, hlt, p'⟩, fun v H' y => ?_⟩
    obtain ⟨e, c, hc, ev⟩ := y
    subst e ev
    exact hs i c _ hc p
  · obtain rfl : i = x.cps.size := by omega
    exact .inl ⟨Nat.le_refl _, hd H p⟩
noncomputable def ArgL (h : Heap) (a : Addr) (ns : List Int) : Prop := ∃ vs : List Value, h.get? a = some { cls := .type "list", data := .seq vs.toArray } ∧ IntsAre vs ns ∧ ns.length ≤ sizeLine
theorem ArgL.inj {h : Heap} {a : Addr} {ns ms : List Int} (x : ArgL h a ns) (y : ArgL h a ms) : ns = ms := by
  obtain ⟨vs, e, i, _⟩ := x
  obtain ⟨us, f, j, _⟩ := y
  rw [e] at f
  have z : vs = us := by
    injection f with f
    injection f with _ _ f
    injection f with f
    simpa using f
  subst z
  have e2 := (vals_ints i).inj (vals_ints j)
  have inj : ∀ {l m : List Int}, l.map V.int = m.map V.int → l = m := by
    intro l
    induction l with
    | nil => intro m h; cases m with | nil => rfl | cons _ _ => cases h
    | cons a l ih =>
      intro m h
      cases m with
      | nil => cases h
      | cons b m =>
        simp only [List.map_cons, List.cons.injEq, V.int.injEq] at h
        rw [h.1, ih h.2]
  exact inj e2
open Classical in
noncomputable def given (K : PySem.W.Frag) (h : Heap) (L : List Addr) : Hp := fun b => if b ∈ L ∧ K.lookup b = none then
    if e : ∃ p : Obj × List Int, h.get? b = some p.1 ∧ ArgL h b p.2 then some (.frz e.choose.1 (.lst (e.choose.2.map V.int))) else none
  else none
theorem given_some {K : PySem.W.Frag} {h : Heap} {L : List Addr} {b : Addr} {o : HO} (e : given K h L b = some o) : b ∈ L ∧ K.lookup b = none ∧ ∃ ob ns, o = .frz ob (.lst (ns.map V.int)) ∧ h.get? b = some ob ∧ ArgL h b ns := by
  unfold given at e
  split at e
  · rename_i c
    split at e
    · rename_i x
      cases e
      exact ⟨c.1, c.2, _, _, rfl, x.choose_spec.1, x.choose_spec.2⟩
    · cases e
  · cases e
theorem given_ok {P : Program} {w : World} {K : PySem.W.Frag} {h : Heap} {L : List Addr} : HOk P w (given K h L) h := by
  intro b u e
  obtain ⟨_, _, ob, ns, rfl, ho, vs, hv, hi, hz⟩ := given_some e
  rw [hv] at ho
  cases ho
  exact ⟨hv, by rw [List.length_map]; exact hz, vs, _, vals_ints hi, hv⟩
theorem given_list {K : PySem.W.Frag} {h : Heap} {L : List Addr} (kin : K.In h) {a : Addr} {ns : List Int} (ha : a ∈ L) (x : ArgL h a ns) : LstAt K (given K h L) a (ns.map V.int) := by
  cases k : K.lookup a with
  | some o =>
    obtain ⟨vs, e, i, z⟩ := x
    have e' := kin a o k
    rw [e] at e'
    cases e'
    exact .inr ⟨vs.toArray, _, k, by rw [List.size_toArray, i.length]; exact z, by simpa using vals_ints i⟩
  | none =>
    have ex : ∃ p : Obj × List Int, h.get? a = some p.1 ∧ ArgL h a p.2 := by
      obtain ⟨vs, e, i, z⟩ := x
      exact ⟨(_, ns), e, vs, e, i, z⟩
    have g : given K h L a = some (.frz ex.choose.1 (.lst (ex.choose.2.map V.int))) := by
      unfold given
      rw [if_pos ⟨ha, k⟩, dif_pos ex]
    have en := ex.choose_spec.2.inj x
    rw [en] at g
    exact .inl (.inr ⟨_, g⟩)
noncomputable def SpecEnd (out : List Int) (s₁ : Shared) (r : Result) (s' : Shared) : Prop := ∃ (p : Addr) (its : List Value) (n : Nat), r = .ok (.ret (.ref p)) ∧ s'.heap.get? p = some { cls := .type "list", data := .seq its.toArray n } ∧ IntsAre its out ∧
  OldK s₁.heap s'.heap ∧ s'.os = s₁.os ∧ AllBare s'.gens
end LX

namespace LX
open PySem PySem.Spec PyProof.Rows L2
noncomputable def TupK (K : PySem.W.Frag) (xs : List V) (a : Addr) : Prop :=
  ∃ (o : Obj) (its : Array Value) (n : Nat), K.lookup a = some o ∧ o.cls = .type "tuple" ∧ o.data = .seq its n ∧ its.size ≤ sizeLine ∧ Vals xs its.toList
theorem TupK.sq {K : PySem.W.Frag} {H : Hp} {xs : List V} {a : Addr} (h : TupK K xs a) : SqT K H a xs := .inr h
theorem absV_rel : ∀ {u : Value} {x : V}, absV u = some x → RelV x u := by
  intro u x h
  cases u <;> first | (cases h; done) | (cases h; first | rfl | exact ⟨_, rfl⟩)
theorem absVs_rel {us : List Value} {xs : List V} (h : us.map absV = xs.map some) : Vals xs us := by
  induction us generalizing xs with
  | nil =>
    cases xs with
    | nil => exact .nil
    | cons _ _ => cases h
  | cons u us ih =>
    cases xs with
    | nil => cases h
    | cons x xs => exact .cons (absV_rel (List.cons.inj h).1) (ih (List.cons.inj h).2)
theorem tupK_mk {K : PySem.W.Frag} {a : Addr} {od : Option Addr} {its : Array Value} {n : Nat} {sl : Array (Option Value)} {xs : List V}
    (l : K.lookup a = some ⟨.type "tuple", od, .seq its n, sl⟩) (v : its.toList.map absV = xs.map some) (z : its.size ≤ 100000) : TupK K xs a :=
  ⟨_, its, n, l, rfl, rfl, Nat.le_trans z (by decide), absVs_rel v⟩
noncomputable def tGr (Φ : Addr → Prop) : TE := fun _ H Q => ∀ a, Φ a → Q (.ref a) H
section
variable {X : Cx} {x : Str} {pos : Pos}
noncomputable def Nm (x : Str) : Prop := (x == ("__debug__" : Str)) = false ∧ (x == ("__classdict__" : Str)) = false
noncomputable def nmsOk (l : List Str) : Bool := l.all fun x => !(x == ("__debug__" : Str)) && !(x == ("__classdict__" : Str))
theorem nmk {l : List Str} (h : nmsOk l = true) {i : Nat} {x : Str} (e : l[i]? = some x) : Nm x := by
  have z := List.all_eq_true.mp h x (List.mem_of_getElem? e)
  simpa [Nm] using z
noncomputable def namesOk (sc : Scope) (l : List (Str × NameKind)) : Bool := l.all fun p => decide (sc.names.lookup p.1 = some p.2)
theorem lk {sc : Scope} {l : List (Str × NameKind)} (h : namesOk sc l = true) {i : Nat} {x : Str} {k : NameKind} (e : l[i]? = some (x, k)) : sc.names.lookup x = some k := by
  have z := List.all_eq_true.mp h (x, k) (List.mem_of_getElem? e)
  simpa using z
theorem pvx (i : Nat) (hv : Vis X.env.scope x) (n : Nm x) (hN : X.N[i]? = some x) : PE X (.Name x pos) (tVar i) := pe_var hN hv n.1 n.2
theorem pg_int {k : Nat} (h : ∃ t, X.mg x = some (.int (k : Int) t)) (hg : Gl X x) (hd : (x == ("__debug__" : Str)) = false) : PE X (.Name x pos) (tC (.int (k : Nat))) := by
  obtain ⟨t, h⟩ := h
  exact pe_glob hg h ⟨t, rfl⟩ hd
theorem pg_strc {k : Str} (h : ∃ t, X.mg x = some (.str k t)) (hg : Gl X x) (hd : (x == ("__debug__" : Str)) = false) : PE X (.Name x pos) (tC (.str k)) := by
  obtain ⟨t, h⟩ := h
  exact pe_glob hg h ⟨t, rfl⟩ hd
theorem pg_ref {Φ : Addr → Prop} (h : ∃ a, X.mg x = some (.ref a) ∧ Φ a) (hg : Gl X x) (hd : (x == ("__debug__" : Str)) = false) : PE X (.Name x pos) (tGr Φ) := by
  obtain ⟨a, h, f⟩ := h
  intro pins s σ H Q I q
  exact pe_glob (v := .ref a) hg h rfl hd pins s σ H Q I (q a f)
end
noncomputable def Def (K : PySem.W.Frag) (mg : Str → Option Value) (x : Str) (st : Stmt) : Prop := ∃ f fd, mg x = some (.ref f) ∧ Fun K x x st f fd
section
variable {P : Program} {w : World} {K : PySem.W.Frag} {mg : Str → Option Value} {base : Heap} {x : Str} {st : Stmt} {N ps : List Str} {k : Nat} {sp : Sp}
theorem Def.fn (D : Def K mg x st) (S : FnScope N ps (defScope st))
    (hb : ∀ (kV doc pm : Value) (an : Option Addr) (cdv ct : Value) (us : List Value), us.length = ps.length → bindArgs (PySem.W.fnOf x x (defArgs st) (defBody st) (defScope st) .none kV doc pm an cdv ct) ⟨us, []⟩ = pure (ps.zip us))
    (len : ∀ vs H Q E, sp vs H Q E → vs.length = ps.length)
    (body : ∀ (f : Addr) (cdv : Value) (A : Around) (outer : List Env) (s : Shared) (H : Hp) (vs : List V) (Q : VK) (E : XK), Room k (A.deeper (envOfC x (defScope st) s.heap.objs.size f cdv)) → sp vs H Q E →
      ∃ t, PSs (cxOf CX0 P w K mg base N x (defScope st) f cdv A outer s H E).nox (defBody st) t ∧ t { nx := fun _ H' => Q .non H', rt := Q } (start N vs) H) : Fn P w K mg base x (k + 1) ps sp := by
  obtain ⟨f, fd, m, F⟩ := D
  exact ⟨f, m, F.kp, fd, F.binds hb, F.ok S len (body f)⟩
theorem Fn.can {f : Addr} (F : Fn P w K mg base x k ps sp) (m : mg x = some (.ref f)) : Can P w K mg base f k ps sp := by
  obtain ⟨g, m', c⟩ := F
  rw [m] at m'
  cases m'
  exact c
end
theorem def_mk {K : PySem.W.Frag} {h : Heap} {mg : Str → Option Value} (X : K.In h) (G : h.Ns mainGlobals mg) {x : Str} {st : Stmt} {f : Addr} {oc : Value} {od an : Option Addr} {osl : Array (Option Value)} {kV doc pm cdv ct : Value}
    (a : PySem.W.nsIn K mainGlobals x = some (some (.ref f))) (l : K.lookup f = some ⟨oc, od, .func (PySem.W.fnOf x x (defArgs st) (defBody st) (defScope st) .none kV doc pm an cdv ct), osl⟩)
    (c : PySem.W.codeIn K cdv x = true) (k : PySem.W.keepIn K (.ref f) = true) : Def K mg x st := ⟨f, _, PySem.W.mg_of X G a, fun_mk l c k⟩
theorem is_tuple : bootBuiltins "tuple" = some (.type "tuple") := by decide +kernel
theorem is_ord : bootBuiltins "ord" = some (.builtin "ord") := by decide +kernel
noncomputable def valOf (s : Stmt) : Expr := match s with
  | .Assign _ e _ => e
  | .Return (some e) _ => e
  | _ => .Constant .none 0 ⟨0, 0, 0, 0⟩
noncomputable def lcScope (e : Expr) : Scope := match e with
  | .ListComp _ _ s _ => s
  | .BinOp (.BinOp _ _ (.Call _ [.ListComp _ _ s _] _ _) _) _ _ _ => s
  | _ => defScope (.Pass ⟨0, 0, 0, 0⟩)
noncomputable def tTru (K : PySem.W.Frag) (ta : TE) : TT := fun σ H Q => ta σ H fun x H' => ∃ k, TruV K x H' k ∧ Q k H'
theorem pt_truthK {X : Cx} {K : PySem.W.Frag} {a : Expr} {ta : TE} (e : X.K = K) (ha : PE X a ta) (he : ∀ whole, isTrue a X.env whole = (do let v ← whole; standAt a.pos; holding [v] (truthy v))) :
    PT X a (tTru K ta) := by
  subst e
  exact pt_truth ha he
theorem pe_ixTK {X : Cx} {K : PySem.W.Frag} {a b : Expr} {ta tb : TE} {pos : Pos} (e : X.K = K) (ha : PE X a ta) (hb : PE X b tb) (hs : PlainIx b) : PE X (.Subscript a b pos) (tOp (rIxT K) ta tb) := by
  subst e
  exact pe_ix ix_tup ha hb hs
theorem pe_tabK {X : Cx} {K : PySem.W.Frag} {o i : Expr} {pos : Pos} {td ty : TE} (e : X.K = K) (ho : PE X o td) (hi : PE X i ty) (hs : NoSl i) : PE X (.Subscript o i pos) (tTab K td ty) := by
  subst e
  exact pe_tab ho hi hs
theorem pe_dynK {X : Cx} {P : Program} {w : World} {K : PySem.W.Frag} {mg : Str → Option Value} {base : Heap} {k : Nat} {pos : Pos} {e fe : Expr} {es : List Expr} {tf : TE} {t : TA} (e1 : X.prog = P) (e2 : X.w = w) (e3 : X.K = K) (e4 : X.mg = mg) (e5 : X.base = base)
    (hf : PE X fe tf) (hr : Room k X.A) (ha : PA X (e :: es) t)
    (hev : eval (.Call fe (e :: es) [] pos) X.env = (do callWith pos (← eval fe X.env) [] (backTo pos (starEach (e :: es) X.env)) (backToKw pos (keywordEach [] X.env))))
    (he : starEach (e :: es) X.env = (false, eval e X.env) :: starEach es X.env) (hpl : (backTo pos (starEach es X.env)).any (·.1) = false) :
    PE X (.Call fe (e :: es) [] pos) (tDyn (fun f sp => ∃ ps, LX.Can P w K mg base f k ps sp) tf t) := by
  subst e1 e2 e3 e4 e5
  exact pe_dyn hf hr ha hev he hpl
noncomputable def Pure (t : TT) (σ : L2.St) (H : Hp) (b : Bool) : Prop := ∀ Q : Bool → Hp → Prop, Q b H → t σ H Q
theorem ifs {c : TT} {t u : TS} {D : Ends} {σ : L2.St} {H : Hp} {b : Bool} (hc : Pure c σ H b) (h : if b = true then t D σ H else u D σ H) : tIfS c t u D σ H := hc _ h
theorem p_and {t u : TT} {σ : L2.St} {H : Hp} {a b : Bool} (ha : Pure t σ H a) (hb : Pure u σ H b) : Pure (tAnd t u) σ H (a && b) := fun Q q => ha _ (by
  cases a with
  | true => exact iteT (hb Q q)
  | false => exact iteF q)
theorem p_or {t u : TT} {σ : L2.St} {H : Hp} {a b : Bool} (ha : Pure t σ H a) (hb : Pure u σ H b) : Pure (tOr t u) σ H (a || b) := fun Q q => ha _ (by
  cases a with
  | true => exact iteT q
  | false => exact iteF (hb Q q))
theorem p_andc {t u : TT} {σ : L2.St} {H : Hp} {a b : Bool} (ha : Pure t σ H a) (hb : a = true → Pure u σ H b) : Pure (tAnd t u) σ H (a && b) := fun Q q => ha _ (by
  cases a with
  | true => exact iteT (hb rfl Q q)
  | false => exact iteF q)
theorem p_orc {t u : TT} {σ : L2.St} {H : Hp} {a b : Bool} (ha : Pure t σ H a) (hb : a = false → Pure u σ H b) : Pure (tOr t u) σ H (a || b) := fun Q q => ha _ (by
  cases a with
  | true => exact iteT q
  | false => exact iteF (hb rfl Q q))
noncomputable def Grow (t : TT) (σ : L2.St) (H : Hp) (b : Bool) : Prop := ∀ Q : Bool → Hp → Prop, (∀ H1, Same H H1 → Q b H1) → t σ H Q
theorem Pure.grow {t : TT} {σ : L2.St} {H : Hp} {b : Bool} (h : Pure t σ H b) : Grow t σ H b := fun Q q => h Q (q H (Same.refl H))
theorem ifsG {c : TT} {t u : TS} {D : Ends} {σ : L2.St} {H : Hp} {b : Bool} (hc : Grow c σ H b) (h : ∀ H1, Same H H1 → if b = true then t D σ H1 else u D σ H1) : tIfS c t u D σ H := hc _ h
theorem g_andc {t u : TT} {σ : L2.St} {H : Hp} {a b : Bool} (ha : Grow t σ H a) (hb : ∀ H1, Same H H1 → a = true → Grow u σ H1 b) : Grow (tAnd t u) σ H (a && b) := fun Q q => ha _ fun H1 s1 => by
  cases a with
  | true => exact iteT (hb H1 s1 rfl Q fun H2 s2 => q H2 (s1.trans s2))
  | false => exact iteF (q H1 s1)
noncomputable abbrev vN (n : Nat) : V := .int n
theorem atN {xs : List V} {i : Nat} {v : V} (h : xs[i]? = some v) : atI xs (i : Int) = some v := atI_nat h
theorem len1 : (1 : Nat) ≤ sizeLine := by decide
theorem SqT.same {K : PySem.W.Frag} {H H' : Hp} {a : Addr} {xs : List V} (e : Same H H') (h : SqT K H a xs) : SqT K H' a xs := by
  rcases h with h | h
  · rcases h with h | ⟨o, h⟩
    · exact .inl (.inl (e _ _ h))
    · exact .inl (.inr ⟨o, e _ _ h⟩)
  · exact .inr h
theorem same_upd {H : Hp} {p : Addr} {o : HO} (h : H p = none) : Same H (upd H p o) := fun b u e => by
  rw [upd_ne (ne_of_none e h)]
  exact e
theorem ln1 {α : Type} {P : List α → Prop} (h : ∀ a, P [a]) : ∀ us : List α, us.length = 1 → P us := fun us e => by
  obtain ⟨a, rfl⟩ := List.length_eq_one_iff.mp e
  exact h a
theorem ln2 {α : Type} {P : List α → Prop} (h : ∀ a b, P [a, b]) : ∀ us : List α, us.length = 2 → P us := fun us e => by
  cases us with
  | nil => cases e
  | cons a us => exact ln1 (P := fun us => P (a :: us)) (h a) us (Nat.succ.inj e)
theorem ln3 {α : Type} {P : List α → Prop} (h : ∀ a b c, P [a, b, c]) : ∀ us : List α, us.length = 3 → P us := fun us e => by
  cases us with
  | nil => cases e
  | cons a us => exact ln2 (P := fun us => P (a :: us)) (h a) us (Nat.succ.inj e)
end LX

namespace LX
open PySem PySem.W PySem.Calls PyProof.Rows L2
theorem dec2 {c : Codec} {cs : List Codec} {ds : List WData} {r : Codec.denoteAll (c :: cs)} (h : Codec.decAll (c :: cs) ds = some r) : ∃ d ds', ds = d :: ds' ∧ c.dec d = some r.1 ∧ Codec.decAll cs ds' = some r.2 := by
  cases ds with
  | nil => cases h
  | cons d ds' =>
    obtain ⟨a, b, h1, h2, rfl⟩ := Codec.both_inv Prod.mk (c.dec d) (Codec.decAll cs ds') r h
    exact ⟨d, ds', rfl, h1, h2⟩
theorem dec_end {ds : List WData} {r : Codec.denoteAll []} (h : Codec.decAll [] ds = some r) : ds = [] := by
  cases ds with
  | nil => rfl
  | cons d ds' => cases h
theorem dec_ints {least most : Nat} {lo hi : Int} {d : WData} {ns : List Int} (h : (Codec.list least most (.int lo hi)).dec d = some ns) : d = .list (ns.map WData.int) ∧ least ≤ ns.length ∧ ns.length ≤ most ∧ ∀ x ∈ ns, lo ≤ x ∧ x ≤ hi := by
  obtain ⟨e, hw⟩ := Codec.enc_of_dec _ _ _ h
  have hw : Codec.inList least most (Codec.inInt lo hi) ns = true := hw
  unfold Codec.inList Codec.inLen at hw
  obtain ⟨h1, h2⟩ := Codec.and_of hw
  obtain ⟨h3, h4⟩ := Codec.inNat_iff.mp h1
  exact ⟨e, h3, h4, fun x hx => Codec.inInt_iff.mp (List.all_eq_true.mp h2 x hx)⟩
theorem dec_one {lo hi : Int} {d : WData} {z : Int} (h : (Codec.int lo hi).dec d = some z) : d = .int z ∧ lo ≤ z ∧ z ≤ hi := by
  obtain ⟨e, hw⟩ := Codec.decInt_inv h
  exact ⟨e, Codec.inInt_iff.mp hw⟩
theorem well_ints {P : Params} {h : Heap} : ∀ (ns : List Int) (vs : List Value), WellAll P h vs (ns.map WData.int) → IntsAre vs ns
  | [], vs, w => by
    cases w
    exact .nil
  | n :: ns, vs, w => by
    cases w with
    | cons a b =>
      cases a
      exact .cons _ _ (well_ints ns _ b)
theorem well_list {P : Params} {h : Heap} {v : Value} {ns : List Int} (w : Well P h v (.list (ns.map WData.int))) (hz : ns.length ≤ sizeLine) : ∃ a, v = .ref a ∧ ArgL h a ns := by
  cases w with
  | list ho hall => exact ⟨_, rfl, _, ho, well_ints ns _ hall, hz⟩
theorem well_int {P : Params} {h : Heap} {v : Value} {z : Int} (w : Well P h v (.int z)) : ∃ t, v = .int z t := by
  cases w
  exact ⟨_, rfl⟩
theorem reads_ints {R : WRecords} {cl : Str → Option Addr} {h : Heap} : ∀ {vs : List Value} {ns : List Int}, IntsAre vs ns → ReadsAllW R cl h vs (ns.map WData.int) []
  | _, _, .nil => .nil
  | _, _, .cons n t r => .cons (as := []) (bs := []) (.int n t) (reads_ints r)
theorem spec_good {r : OpenSpec} {args : List WData} {s₁ s' : Shared} {res : Result} {cl : Str → Option Addr} {mean : ExcName → Option Value} {out : List Int} (he : SpecEnd out s₁ res s') (hp : r.post args (.list (out.map WData.int)) = true) :
    GoodWG r.claim cl mean args s₁ res s' := by
  obtain ⟨p, its, n, rfl, hg, hi, ho, hos, hb⟩ := he
  refine ⟨.inl ⟨.ref p, .list (out.map WData.int), p :: [], rfl, fun _ => rfl, ?_, hp, fun z => by cases z⟩, ho, hos, hb⟩
  exact .list (vs := its.toArray) (n := n) hg rfl rfl (by simpa using reads_ints hi)
theorem spec_fn {P : Program} {w : World} {K : PySem.W.Frag} {mg mb : Str → Option Value} {k : Nat} {fa : Addr} {x : Str} {ps : List Str} {sp : Sp} {s₁ : Shared} {us : List Value} {vs : List V} {L : List Addr} {out : List Int}
    (KX : K.In s₁.heap) (hns : s₁.heap.Ns mainGlobals mg) (hb : s₁.heap.Ns builtinsNs mb) (hbb : ∀ x : Str, x ≠ "__name__" → mb x = bootBuiltins x) (hlim : s₁.heap.NoLimit) (hg : s₁.gens = #[])
    (hr : Room k callerA) (hL : ∀ a ∈ L, ∃ ns, ArgL s₁.heap a ns)
    (F : ∀ base : Heap, K.In base → base.Ns mainGlobals mg → Fn P w K mg base x k ps sp) (hm : mg x = some (.ref fa)) (hlen : us.length = ps.length) (hv : Vals vs us)
    (hsp : sp vs (given K s₁.heap L) (fun v H' => ∃ p, v = .ref p ∧ H' p = some (.lst (out.map V.int))) E0) :
    codeAny (model P w) callerA (.call (.ref fa) ⟨us, []⟩) (SpecEnd out s₁) s₁ := by
  have noD : ∀ {b : Addr} {o : Obj} {es : Array DictEntry} {ep : Nat}, s₁.heap.get? b = some o → o.data = .dict es ep → given K s₁.heap L b = none := fun {b o es ep} e d => by
    cases q : given K s₁.heap L b with
    | none => rfl
    | some u =>
      obtain ⟨_, _, ob, ns, _, ho, zs, hz, _⟩ := given_some q
      rw [e] at hz
      cases hz
      have d' : Data.seq zs.toArray _ = Data.dict es ep := d
      cases d'
  have nsK : ∀ {b : Addr} {m : Str → Option Value}, s₁.heap.Ns b m → (hidT s₁.heap (given K s₁.heap L)).Ns b m := fun {b m} h => by
    obtain ⟨o, es, ep, e, d, r⟩ := h
    exact ⟨o, es, ep, hidT_get e (noD e d), d, r⟩
  have hKb : K.In (hidT s₁.heap (given K s₁.heap L)) := fun b o e => hidT_get (KX b o e) (by
    cases q : given K s₁.heap L b with
    | none => rfl
    | some u =>
      have z := (given_some q).2.1
      rw [e] at z
      cases z)
  have hM : Mod K mg (hidT s₁.heap (given K s₁.heap L)) := ⟨hKb, nsK hns, ⟨mb, nsK hb, hbb⟩, let ⟨mc, h1, h2⟩ := hlim; ⟨mc, nsK h1, h2⟩⟩
  have e0 : Env0 P w K mg (hidT s₁.heap (given K s₁.heap L)) callerA [] s₁ (given K s₁.heap L) :=
    ⟨rfl, hM, fun b o e => of_hidT e, Nat.le_of_eq (hidT_size _ _), trivial, fun b hb => absurd (show b ∈ ([] : List Addr) from hb) (by simp), given_ok, .of_eq hg⟩
  obtain ⟨_, fd, hbd, FO⟩ := (F _ hKb (nsK hns)).can hm
  have hbind := hbd s₁ us KX (by rw [List.append_nil]; exact hlen)
  rw [List.append_nil] at hbind
  refine codeAny_mono (FO.run callerA [] s₁ (given K s₁.heap L) ⟨us, []⟩ us vs _ _ hr e0 hbind hv hsp) fun r s' h => ?_
  cases r with
  | error e => exact False.elim h
  | ok fl =>
    cases fl with
    | next => exact False.elim h
    | brk => exact False.elim h
    | cont => exact False.elim h
    | ret u =>
      obtain ⟨v, H', os, bare, un, hok', r', p, ev, hp⟩ := h
      subst ev
      obtain rfl : u = Value.ref p := r'
      obtain ⟨_, its, n, rel, hget⟩ := hok' p _ hp
      refine ⟨p, its, n, rfl, hget, rel.ints, OldK.of_keep fun b o e => ?_, os, bare⟩
      cases q : given K s₁.heap L b with
      | none => exact un.keep b o e q (fun z => absurd (show b ∈ ([] : List Addr) from z) (by simp)) (by simp)
      | some u =>
        obtain ⟨_, _, ob, ns, rfl, ho, _⟩ := given_some q
        obtain ⟨e2, _⟩ := hok' b _ (un.frzs b ob _ q)
        rw [e] at ho
        cases ho
        exact e2
end LX

namespace LX
open PySem PySem.Spec PyProof.Rows L2
noncomputable def Is (t : TE) (σ : L2.St) (H : Hp) (v : V) : Prop := ∀ Q : VK, Q v H → t σ H Q
noncomputable def IsA (t : TA) (σ : L2.St) (H : Hp) (vs : List V) : Prop := ∀ Q : List V → Hp → Prop, Q vs H → t σ H Q
section
variable {σ : L2.St} {H : Hp} {i j x y : Nat} {v v' : V} {ta tb ti : TE} {K : PySem.W.Frag} {a : Addr} {xs : List V} {c : TT} {p : Prop} [Decidable p]
theorem is_var (h : σ[i]? = some (some v)) : Is (tVar i) σ H v := fun _ q => ⟨v, h, q⟩
theorem is_c : Is (tC v) σ H v := fun _ q => q
theorem is_eq (h : Is ta σ H v) (e : v = v') : Is ta σ H v' := e ▸ h
theorem is_n {g : Nat → Nat → Nat} (ha : Is ta σ H (vN x)) (hb : Is tb σ H (vN y)) : Is (tOp (rN g) ta tb) σ H (vN (g x y)) := fun Q q => ha _ (hb _ ⟨x, y, rfl, rfl, q⟩)
theorem is_nc {g : Nat → Nat → Nat} {d : Nat → Nat → Prop} (ha : Is ta σ H (vN x)) (hb : Is tb σ H (vN y)) (h : d x y) : Is (tOp (rNC d g) ta tb) σ H (vN (g x y)) := fun Q q => ha _ (hb _ ⟨x, y, rfl, rfl, h, q⟩)
theorem is_i {g : Int → Int → V} {m n : Int} (ha : Is ta σ H (.int m)) (hb : Is tb σ H (.int n)) : Is (tOp (rI0 g) ta tb) σ H (g m n) := fun Q q => ha _ (hb _ ⟨m, n, rfl, rfl, q⟩)
theorem is_ic {g : Int → Int → V} {d : Int → Int → Prop} {m n : Int} (ha : Is ta σ H (.int m)) (hb : Is tb σ H (.int n)) (h : d m n) : Is (tOp (rI d g) ta tb) σ H (g m n) := fun Q q => ha _ (hb _ ⟨m, n, rfl, rfl, h, q⟩)
theorem is_ixL (ha : Is ta σ H (.ref a)) (hb : Is tb σ H (vN j)) (hS : SqL K H a xs) (h : xs[j]? = some v) : Is (tOp (rIxL K) ta tb) σ H v := fun Q q => ha _ (hb _ ⟨a, xs, _, v, rfl, rfl, hS, atN h, q⟩)
theorem is_ixT (ha : Is ta σ H (.ref a)) (hb : Is tb σ H (vN j)) (hS : SqT K H a xs) (h : xs[j]? = some v) : Is (tOp (rIxT K) ta tb) σ H v := fun Q q => ha _ (hb _ ⟨a, xs, _, v, rfl, rfl, hS, atN h, q⟩)
theorem is_ixG (hb : Is tb σ H (vN j)) (h : xs[j]? = some v) : Is (tOp (rIxT K) (tGr (TupK K xs)) tb) σ H v := fun Q q a ha => hb _ ⟨a, xs, _, v, rfl, rfl, ha.sq, atN h, q⟩
theorem pu_eq {b b' : Bool} (h : Pure c σ H b) (e : b = b') : Pure c σ H b' := e ▸ h
theorem pu_test {t : TE} {b : Bool} (h : Is t σ H (.bl b)) : Pure (tTest t) σ H b := fun Q q => h _ ⟨b, rfl, q⟩
theorem pu_tru {b : Bool} (h : Is ta σ H (vN x)) (e : (((x : Nat) : Int) != 0) = b) : Pure (fun σ H Q => ta σ H fun x H' => ∃ k, TruV K x H' k ∧ Q k H') σ H b := fun Q q => h _ ⟨_, e.symm, q⟩
theorem dec_vN (x y : Nat) : decide (V.int (x : Int) = V.int (y : Int)) = decide (x = y) := decide_eq_decide.mpr (by rw [V.int.injEq]; exact Int.natCast_inj)
theorem is_eqN (ha : Is ta σ H (vN x)) (hb : Is tb σ H (vN y)) : Is (tOp rEq ta tb) σ H (.bl (decide (x = y))) := fun Q q => ha _ (hb _ ⟨rfl, by rw [show decide (vN x = vN y) = decide (x = y) from dec_vN x y]; exact q⟩)
theorem is_neN (ha : Is ta σ H (vN x)) (hb : Is tb σ H (vN y)) : Is (tOp rNe ta tb) σ H (.bl (!decide (x = y))) := fun Q q => ha _ (hb _ ⟨rfl, by rw [show decide (vN x = vN y) = decide (x = y) from dec_vN x y]; exact q⟩)
theorem is_eqS {s z : Str} (ha : Is ta σ H (.str s)) (hb : Is tb σ H (.str z)) (e : s = z ↔ p) : Is (tOp rEq ta tb) σ H (.bl (decide p)) := fun Q q => ha _ (hb _ ⟨rfl, by rw [show decide (V.str s = V.str z) = decide p from decide_eq_decide.mpr (by rw [V.str.injEq]; exact e)]; exact q⟩)
theorem is_ltN (ha : Is ta σ H (vN x)) (hb : Is tb σ H (vN y)) : Is (tOp (rI0 fun i j => .bl (decide (i < j))) ta tb) σ H (.bl (decide (x < y))) := is_eq (is_i ha hb) (congrArg V.bl (decide_eq_decide.mpr Int.ofNat_lt))
theorem is_gtN (ha : Is ta σ H (vN x)) (hb : Is tb σ H (vN y)) : Is (tOp (rI0 fun i j => .bl (decide (j < i))) ta tb) σ H (.bl (decide (y < x))) := is_eq (is_i ha hb) (congrArg V.bl (decide_eq_decide.mpr Int.ofNat_lt))
theorem is_ite (hc : Pure c σ H (decide p)) (ha : Is ta σ H v) (hb : Is tb σ H v') : Is (tIf c ta tb) σ H (if p then v else v') := fun Q q => hc _ (by
  by_cases e : p
  · rw [if_pos e] at q; rw [decide_eq_true e]; exact iteT (ha Q q)
  · rw [if_neg e] at q; rw [decide_eq_false e]; exact iteF (hb Q q))
theorem ifsP {t u : TS} {D : Ends} (hc : Pure c σ H (decide p)) (h0 : p → t D σ H) (h1 : ¬ p → u D σ H) : tIfS c t u D σ H := ifs hc (by
  by_cases e : p
  · rw [decide_eq_true e]; exact iteT (h0 e)
  · rw [decide_eq_false e]; exact iteF (h1 e))
theorem isa_nil : IsA tNil σ H [] := fun _ q => q
theorem isa_cons {te : TE} {t : TA} {vs : List V} (h : Is te σ H v) (r : IsA t σ H vs) : IsA (tCons te t) σ H (v :: vs) := fun Q q => h _ (r _ q)
theorem is_fn {sp : Sp} {t : TA} {vs : List V} (h : IsA t σ H vs) (hs : ∀ Q : VK, Q v H → sp vs H Q E0) : Is (tFn sp t) σ H v := fun Q q => h _ (hs Q q)
theorem do_fn {sp : Sp} {t : TA} {vs : List V} {Q : VK} (h : IsA t σ H vs) (hs : sp vs H Q E0) : tFn sp t σ H Q := h _ hs
end
end LX

namespace Chip
open Sd12
noncomputable def row (h : Nat) : Nat :=
  if bits h 13 3 = 0 ∧ bits h 11 2 ≠ 3 then 1
  else if bits h 11 5 = 3 then 2
  else if bits h 13 3 = 1 then 3
  else if bits h 10 6 = 16 then 4
  else if bits h 10 6 = 17 then 5
  else if bits h 11 5 = 9 then 6
  else if bits h 12 4 = 5 then 7
  else if bits h 13 3 = 3 ∨ bits h 12 4 = 8 then 8
  else if bits h 12 4 = 9 then 9
  else if bits h 12 4 = 10 then 10
  else if bits h 12 4 = 11 then 11
  else if bits h 12 4 = 12 then 12
  else if bits h 12 4 = 13 then 13
  else if bits h 11 5 = 28 then 14
  else 15
noncomputable def rowU (u : Nat) : Nat :=
  if u / 8 % 8 = 0 ∧ u / 2 % 4 ≠ 3 then 1
  else if u / 2 % 32 = 3 then 2
  else if u / 8 % 8 = 1 then 3
  else if u % 64 = 16 then 4
  else if u % 64 = 17 then 5
  else if u / 2 % 32 = 9 then 6
  else if u / 4 % 16 = 5 then 7
  else if u / 8 % 8 = 3 ∨ u / 4 % 16 = 8 then 8
  else if u / 4 % 16 = 9 then 9
  else if u / 4 % 16 = 10 then 10
  else if u / 4 % 16 = 11 then 11
  else if u / 4 % 16 = 12 then 12
  else if u / 4 % 16 = 13 then 13
  else if u / 2 % 32 = 28 then 14
  else 15
theorem u2 (h : Nat) : h / 1024 / 2 = h / 2048 := Nat.div_div_eq_div_mul h 1024 2
theorem u4 (h : Nat) : h / 1024 / 4 = h / 4096 := Nat.div_div_eq_div_mul h 1024 4
theorem u8 (h : Nat) : h / 1024 / 8 = h / 8192 := Nat.div_div_eq_div_mul h 1024 8
theorem row_u (h : Nat) : row h = rowU (h / 1024) := by
  unfold rowU
  rw [u2, u4, u8]
  rfl
noncomputable def br (j h next : Nat) : Option Ins := match j with
  | 1 => some (.shiftImm (bits h 11 2) (bits h 0 3) (bits h 3 3) (bits h 6 5))
  | 2 => some (if bit h 10 = true then .addImm3 (bit h 9) (bits h 0 3) (bits h 3 3) (bits h 6 3) else .addReg (bit h 9) (bits h 0 3) (bits h 3 3) (bits h 6 3))
  | 3 => some (.imm8 (bits h 11 2) (bits h 8 3) (bits h 0 8))
  | 4 => some (.alu (bits h 6 4) (bits h 0 3) (bits h 3 3))
  | 5 => if bits h 8 2 = 3 then (if bits h 0 3 ≠ 0 ∨ bits h 3 4 = 15 then none else some (.branchReg (bit h 7) (bits h 3 4)))
    else if bits h 8 2 = 1 ∧ ((bits h 0 3 + 8 * bits h 7 1 < 8 ∧ bits h 3 4 < 8) ∨ bits h 0 3 + 8 * bits h 7 1 = 15 ∨ bits h 3 4 = 15) then none
    else if bits h 8 2 = 0 ∧ bits h 0 3 + 8 * bits h 7 1 = 15 ∧ bits h 3 4 = 15 then none
    else some (.high (bits h 8 2) (bits h 0 3 + 8 * bits h 7 1) (bits h 3 4))
  | 6 => some (.literal (bits h 8 3) (bits h 0 8))
  | 7 => some (.memReg (bits h 9 3) (bits h 0 3) (bits h 3 3) (bits h 6 3))
  | 8 => some (.memImm (if bits h 12 4 = 8 then (if bit h 11 = true then 5 else 1) else (if bit h 12 = true then 2 else 0) + (if bit h 11 = true then 4 else 0)) (bits h 0 3) (bits h 3 3) (bits h 6 5))
  | 9 => some (.memImm (if bit h 11 = true then 4 else 0) (bits h 8 3) 13 (bits h 0 8))
  | 10 => some (.adr (bit h 11) (bits h 8 3) (bits h 0 8))
  | 11 => if bits h 8 4 = 0 then some (.spMove (bit h 7) (bits h 0 7))
    else if bits h 8 4 = 2 then some (.extend (bits h 6 2) (bits h 0 3) (bits h 3 3))
    else if bits h 8 4 = 4 ∨ bits h 8 4 = 5 then (if bits h 0 9 = 0 then none else some (.push (listOf (bits h 0 8) ++ if bits h 8 4 = 5 then [14] else [])))
    else if bits h 8 4 = 12 ∨ bits h 8 4 = 13 then (if bits h 0 9 = 0 then none else some (.pop (listOf (bits h 0 8) ++ if bits h 8 4 = 13 then [15] else [])))
    else if bits h 8 4 = 10 then (if bits h 6 2 = 2 then none else some (.reverse (bits h 6 2) (bits h 0 3) (bits h 3 3)))
    else if bits h 8 4 = 14 then some (.halt_ (bits h 0 8))
    else if bits h 8 4 = 15 ∧ bits h 0 4 = 0 then some (.nothing false)
    else none
  | 12 => if listOf (bits h 0 8) = [] ∨ (bit h 11 = false ∧ (listOf (bits h 0 8)).contains (bits h 8 3) = true ∧ (listOf (bits h 0 8)).head? ≠ some (bits h 8 3)) then none else some (.many (bit h 11) (bits h 8 3) (listOf (bits h 0 8)))
  | 13 => if bits h 8 4 = 14 then none else if bits h 8 4 = 15 then some (.call (bits h 0 8)) else some (.cond (bits h 8 4) (offset 8 (bits h 0 8)))
  | 14 => some (.branch (offset 11 (bits h 0 11)))
  | _ => if bits h 11 5 = 30 ∧ bits next 14 2 = 3 ∧ bit next 12 = true then
      some (.link (offset 24 (toNat (bit h 10) * 2 ^ 23 + (1 - (toNat (bit next 13) + toNat (bit h 10)) % 2) * 2 ^ 22 + (1 - (toNat (bit next 11) + toNat (bit h 10)) % 2) * 2 ^ 21 + bits h 0 10 * 2 ^ 11 + bits next 0 11)))
    else if h = 0xF3BF ∧ (next / 16 = 0x8F4 ∨ next / 16 = 0x8F5 ∨ next / 16 = 0x8F6) then some (.nothing true)
    else none
theorem ite_row {c : Prop} [Decidable c] {a x : Option Ins} {j r h nx : Nat} (h1 : a = br j h nx) (h2 : x = br r h nx) : (if c then a else x) = br (if c then j else r) h nx := by
  by_cases e : c
  · rw [if_pos e, if_pos e]; exact h1
  · rw [if_neg e, if_neg e]; exact h2
theorem decode_row (h nx : Nat) : decode h nx = br (row h) h nx :=
  ite_row rfl (ite_row rfl (ite_row rfl (ite_row rfl (ite_row rfl (ite_row rfl (ite_row rfl (ite_row rfl (ite_row rfl (ite_row rfl (ite_row rfl (ite_row rfl (ite_row rfl (ite_row rfl rfl)))))))))))))
theorem lt64 {u : Nat} (h : u / 2 < 32) : u < 64 := by omega
theorem cls {j lo hi : Nat} (d : ∀ u : _root_.Fin 64, lo ≤ u.1 / 2 → u.1 / 2 < hi → rowU u.1 = j) (b : hi ≤ 32) {h : Nat} (h1 : lo ≤ h / 2048) (h2 : h / 2048 < hi) (nx : Nat) : decode h nx = br j h nx := by
  rw [decode_row, row_u]
  rw [← u2] at h1 h2
  rw [d ⟨h / 1024, lt64 (Nat.lt_of_lt_of_le h2 b)⟩ h1 h2]
theorem z (h n : Nat) : bits h 0 n = h % 2 ^ n := by
  unfold bits
  rw [Nat.pow_zero, Nat.div_one]
theorem z3 (h : Nat) : bits h 0 3 = h % 8 := z h 3
theorem z4 (h : Nat) : bits h 0 4 = h % 16 := z h 4
theorem z7 (h : Nat) : bits h 0 7 = h % 128 := z h 7
theorem z8 (h : Nat) : bits h 0 8 = h % 256 := z h 8
theorem z9 (h : Nat) : bits h 0 9 = h % 512 := z h 9
theorem z10 (h : Nat) : bits h 0 10 = h % 1024 := z h 10
theorem z11 (h : Nat) : bits h 0 11 = h % 2048 := z h 11
theorem dec_shift {h nx : Nat} (hc : h / 2048 < 3) : decode h nx = some (.shiftImm (h / 2048) (h % 8) (h / 8 % 8) (h / 64 % 32)) := by
  rw [cls (j := 1) (lo := 0) (hi := 3) (by decide +kernel) (by decide) (Nat.zero_le _) hc]
  show some (Ins.shiftImm (h / 2048 % 4) (bits h 0 3) (h / 8 % 8) (h / 64 % 32)) = _
  rw [z3, Nat.mod_eq_of_lt (Nat.lt_trans hc (by decide))]
theorem bit_if (x i : Nat) : (bit x i = true) = (x / 2 ^ i % 2 = 1) := propext beq_iff_eq
theorem dec_sum {h nx : Nat} (hc : h / 2048 = 3) : decode h nx = some (if h / 1024 % 2 = 1 then .addImm3 (h / 512 % 2 == 1) (h % 8) (h / 8 % 8) (h / 64 % 8) else .addReg (h / 512 % 2 == 1) (h % 8) (h / 8 % 8) (h / 64 % 8)) := by
  rw [cls (j := 2) (lo := 3) (hi := 4) (by decide +kernel) (by decide) (Nat.le_of_eq hc.symm) (hc ▸ by decide)]
  show some (if bit h 10 = true then Ins.addImm3 (h / 512 % 2 == 1) (bits h 0 3) (h / 8 % 8) (h / 64 % 8) else .addReg (h / 512 % 2 == 1) (bits h 0 3) (h / 8 % 8) (h / 64 % 8)) = _
  simp only [z3, bit_if]
theorem dec_byte {h nx : Nat} (hc : 4 ≤ h / 2048) (hd : h / 2048 < 8) : decode h nx = some (.imm8 (h / 2048 % 4) (h / 256 % 8) (h % 256)) := by
  rw [cls (j := 3) (lo := 4) (hi := 8) (by decide +kernel) (by decide) hc hd]
  show some (Ins.imm8 (h / 2048 % 4) (h / 256 % 8) (bits h 0 8)) = _
  rw [z8]
theorem dec_alu {h nx : Nat} (hc : h / 1024 = 16) : decode h nx = some (.alu (h / 64 % 16) (h % 8) (h / 8 % 8)) := by
  rw [decode_row, row_u, hc]
  show some (Ins.alu (h / 64 % 16) (bits h 0 3) (h / 8 % 8)) = _
  rw [z3]
theorem dec_high {h nx : Nat} (hc : h / 1024 = 17) : decode h nx = (if h / 256 % 4 = 3 then (if h % 8 ≠ 0 ∨ h / 8 % 16 = 15 then none else some (.branchReg (h / 128 % 2 == 1) (h / 8 % 16)))
    else if h / 256 % 4 = 1 ∧ ((h % 8 + 8 * (h / 128 % 2) < 8 ∧ h / 8 % 16 < 8) ∨ h % 8 + 8 * (h / 128 % 2) = 15 ∨ h / 8 % 16 = 15) then none
    else if h / 256 % 4 = 0 ∧ h % 8 + 8 * (h / 128 % 2) = 15 ∧ h / 8 % 16 = 15 then none
    else some (.high (h / 256 % 4) (h % 8 + 8 * (h / 128 % 2)) (h / 8 % 16))) := by
  rw [decode_row, row_u, hc, ← z3 h]
  rfl
theorem dec_lit {h nx : Nat} (hc : h / 2048 = 9) : decode h nx = some (.literal (h / 256 % 8) (h % 256)) := by
  rw [cls (j := 6) (lo := 9) (hi := 10) (by decide +kernel) (by decide) (Nat.le_of_eq hc.symm) (hc ▸ by decide), ← z8 h]
  rfl
theorem dec_memreg {h nx : Nat} (hc : 10 ≤ h / 2048) (hd : h / 2048 < 12) : decode h nx = some (.memReg (h / 512 % 8) (h % 8) (h / 8 % 8) (h / 64 % 8)) := by
  rw [cls (j := 7) (lo := 10) (hi := 12) (by decide +kernel) (by decide) hc hd, ← z3 h]
  rfl
noncomputable def memOp (k : Nat) : Nat := if k = 0 then 0 else if k = 1 then 4 else if k = 2 then 2 else if k = 3 then 6 else if k = 4 then 1 else 5
theorem dec_memimm {h nx : Nat} (hc : 12 ≤ h / 2048) (hd : h / 2048 < 18) : decode h nx = some (.memImm (memOp (h / 2048 - 12)) (h % 8) (h / 8 % 8) (h / 64 % 32)) := by
  rw [cls (j := 8) (lo := 12) (hi := 18) (by decide +kernel) (by decide) hc hd, ← z3 h]
  have d : ∀ u : _root_.Fin 64, 12 ≤ u.1 / 2 → u.1 / 2 < 18 → (if u.1 / 4 % 16 = 8 then (if (u.1 / 2 % 2 == 1) = true then 5 else 1) else (if (u.1 / 4 % 2 == 1) = true then 2 else 0) + (if (u.1 / 2 % 2 == 1) = true then 4 else 0)) = memOp (u.1 / 2 - 12) := by decide +kernel
  have hu : h / 1024 < 64 := lt64 (by rw [u2]; exact Nat.lt_trans hd (by decide))
  have e := d ⟨h / 1024, hu⟩ (by rw [u2]; exact hc) (by rw [u2]; exact hd)
  simp only [u2, u4] at e
  rw [← e]
  rfl
theorem dec_stack {h nx : Nat} (hc : 18 ≤ h / 2048) (hd : h / 2048 < 20) : decode h nx = some (.memImm (if h / 2048 = 19 then 4 else 0) (h / 256 % 8) 13 (h % 256)) := by
  rw [cls (j := 9) (lo := 18) (hi := 20) (by decide +kernel) (by decide) hc hd, ← z8 h]
  have d : ∀ t : _root_.Fin 32, 18 ≤ t.1 → t.1 < 20 → (if (t.1 % 2 == 1) = true then 4 else 0) = if t.1 = 19 then 4 else 0 := by decide +kernel
  rw [← d ⟨h / 2048, Nat.lt_trans hd (by decide)⟩ hc hd]
  rfl
theorem dec_adr {h nx : Nat} (hc : 20 ≤ h / 2048) (hd : h / 2048 < 22) : decode h nx = some (.adr (h / 2048 == 21) (h / 256 % 8) (h % 256)) := by
  rw [cls (j := 10) (lo := 20) (hi := 22) (by decide +kernel) (by decide) hc hd, ← z8 h]
  have d : ∀ t : _root_.Fin 32, 20 ≤ t.1 → t.1 < 22 → (t.1 % 2 == 1) = (t.1 == 21) := by decide +kernel
  rw [← d ⟨h / 2048, Nat.lt_trans hd (by decide)⟩ hc hd]
  rfl
theorem dec_odd {h nx : Nat} (hc : 22 ≤ h / 2048) (hd : h / 2048 < 24) : decode h nx =
    (if h / 256 % 16 = 0 then some (.spMove (h / 128 % 2 == 1) (h % 128))
    else if h / 256 % 16 = 2 then some (.extend (h / 64 % 4) (h % 8) (h / 8 % 8))
    else if h / 256 % 16 = 4 ∨ h / 256 % 16 = 5 then (if h % 512 = 0 then none else some (.push (listOf (h % 256) ++ if h / 256 % 16 = 5 then [14] else [])))
    else if h / 256 % 16 = 12 ∨ h / 256 % 16 = 13 then (if h % 512 = 0 then none else some (.pop (listOf (h % 256) ++ if h / 256 % 16 = 13 then [15] else [])))
    else if h / 256 % 16 = 10 then (if h / 64 % 4 = 2 then none else some (.reverse (h / 64 % 4) (h % 8) (h / 8 % 8)))
    else if h / 256 % 16 = 14 then some (.halt_ (h % 256))
    else if h / 256 % 16 = 15 ∧ h % 16 = 0 then some (.nothing false)
    else none) := by
  rw [cls (j := 11) (lo := 22) (hi := 24) (by decide +kernel) (by decide) hc hd, ← z3 h, ← z4 h, ← z7 h, ← z8 h, ← z9 h]
  rfl
theorem dec_many {h nx : Nat} (hc : 24 ≤ h / 2048) (hd : h / 2048 < 26) : decode h nx =
    (if listOf (h % 256) = [] ∨ (h / 2048 = 24 ∧ (listOf (h % 256)).contains (h / 256 % 8) = true ∧ (listOf (h % 256)).head? ≠ some (h / 256 % 8)) then none else some (.many (h / 2048 == 25) (h / 256 % 8) (listOf (h % 256)))) := by
  rw [cls (j := 12) (lo := 24) (hi := 26) (by decide +kernel) (by decide) hc hd, ← z8 h]
  have d : ∀ t : _root_.Fin 32, 24 ≤ t.1 → t.1 < 26 → (t.1 % 2 == 1) = (t.1 == 25) ∧ (t.1 = 24 ↔ (t.1 % 2 == 1) = false) := by decide +kernel
  obtain ⟨e1, e2⟩ := d ⟨h / 2048, Nat.lt_trans hd (by decide)⟩ hc hd
  rw [← e1]
  simp only [e2]
  rfl
theorem dec_cond {h nx : Nat} (hc : 26 ≤ h / 2048) (hd : h / 2048 < 28) : decode h nx = (if h / 256 % 16 = 14 then none else if h / 256 % 16 = 15 then some (.call (h % 256)) else some (.cond (h / 256 % 16) (offset 8 (h % 256)))) := by
  rw [cls (j := 13) (lo := 26) (hi := 28) (by decide +kernel) (by decide) hc hd, ← z8 h]
  rfl
theorem dec_b {h nx : Nat} (hc : h / 2048 = 28) : decode h nx = some (.branch (offset 11 (h % 2048))) := by
  rw [cls (j := 14) (lo := 28) (hi := 29) (by decide +kernel) (by decide) (Nat.le_of_eq hc.symm) (hc ▸ by decide), ← z11 h]
  rfl
noncomputable def far (h nx : Nat) : Nat := toNat (h / 1024 % 2 == 1) * 2 ^ 23 + (1 - (toNat (nx / 8192 % 2 == 1) + toNat (h / 1024 % 2 == 1)) % 2) * 2 ^ 22 + (1 - (toNat (nx / 2048 % 2 == 1) + toNat (h / 1024 % 2 == 1)) % 2) * 2 ^ 21 + h % 1024 * 2 ^ 11 + nx % 2048
theorem ite_not {c : Prop} [Decidable c] {a x : Option Ins} (h : ¬ c) : (if c then a else x) = x := if_neg h
theorem dec_no {h nx : Nat} (hh : h < 65536) (hc : h / 2048 = 29 ∨ h / 2048 = 31) : decode h nx = none := by
  have d : ∀ u : _root_.Fin 64, (u.1 / 2 = 29 ∨ u.1 / 2 = 31) → rowU u.1 = 15 := by decide +kernel
  have hu : h / 1024 < 64 := Nat.div_lt_of_lt_mul hh
  rw [decode_row, row_u, d ⟨h / 1024, hu⟩ (by rw [u2]; exact hc)]
  refine (ite_not fun q => ?_).trans (ite_not fun q => ?_)
  · have q1 : h / 2048 % 32 = 30 := q.1
    rcases hc with e | e
    · rw [e] at q1; exact absurd q1 (by decide)
    · rw [e] at q1; exact absurd q1 (by decide)
  · rw [q.1] at hc
    exact absurd hc (by decide)
theorem dec_wide {h nx : Nat} (hc : h / 2048 = 30) : decode h nx = (if nx / 16384 % 4 = 3 ∧ nx / 4096 % 2 = 1 then some (.link (offset 24 (far h nx)))
    else if h = 0xF3BF ∧ (nx / 16 = 0x8F4 ∨ nx / 16 = 0x8F5 ∨ nx / 16 = 0x8F6) then some (.nothing true) else none) := by
  rw [cls (j := 15) (lo := 30) (hi := 31) (by decide +kernel) (by decide) (Nat.le_of_eq hc.symm) (hc ▸ by decide)]
  unfold far
  rw [← z10 h, ← z11 nx]
  have c0 : bits h 11 5 = 30 := by
    show h / 2048 % 32 = 30
    rw [hc]
  have c : (bits h 11 5 = 30 ∧ bits nx 14 2 = 3 ∧ bit nx 12 = true) = (nx / 16384 % 4 = 3 ∧ nx / 4096 % 2 = 1) := by
    rw [bit_if]
    exact propext ⟨fun q => q.2, fun q => ⟨c0, q⟩⟩
  show (if bits h 11 5 = 30 ∧ bits nx 14 2 = 3 ∧ bit nx 12 = true then _ else _) = _
  simp only [c]
  rfl
end Chip

namespace Chip
open Sd12
noncomputable def Wf (i : Ins) : Prop := match i with
  | .shiftImm k rd rm n => k < 3 ∧ rd < 16 ∧ rm < 16 ∧ n < 32
  | .addReg _ rd rn rm => rd < 16 ∧ rn < 16 ∧ rm < 16
  | .addImm3 _ rd rn k => rd < 16 ∧ rn < 16 ∧ k < 256
  | .imm8 op rd k => op < 4 ∧ rd < 16 ∧ k < 256
  | .alu op rd rm => op < 16 ∧ rd < 16 ∧ rm < 16
  | .high op rd rm => op < 3 ∧ rd < 16 ∧ rm < 16
  | .branchReg _ rm => rm < 16
  | .literal rt k => rt < 16 ∧ k < 256
  | .memReg op rt rn rm => op < 8 ∧ rt < 16 ∧ rn < 16 ∧ rm < 16
  | .memImm op rt rn k => op < 8 ∧ rt < 16 ∧ rn < 16 ∧ k < 256
  | .adr _ rd k => rd < 16 ∧ k < 256
  | .spMove _ k => k < 256
  | .extend op rd rm => op < 4 ∧ rd < 16 ∧ rm < 16
  | .reverse op rd rm => op < 4 ∧ op ≠ 2 ∧ rd < 16 ∧ rm < 16
  | .push l => (∀ r ∈ l, r < 16) ∧ l.length ≤ 9
  | .pop l => (∀ r ∈ l, r < 16) ∧ l.length ≤ 9
  | .many _ rn l => rn < 16 ∧ (∀ r ∈ l, r < 16) ∧ l.length ≤ 9
  | .cond c _ => c < 14
  | .branch _ => True
  | .link _ => True
  | .call k => k < 256
  | .halt_ k => k < 256
  | .nothing _ => True
theorem md (x : Nat) {k n : Nat} (h0 : 0 < k) (h : k ≤ n) : x % k < n := Nat.lt_of_lt_of_le (Nat.mod_lt x h0) h
theorem l8 (x : Nat) : x % 8 < 16 := md x (by decide) (by decide)
theorem l16 (x : Nat) : x % 16 < 16 := md x (by decide) (by decide)
theorem l32 (x : Nat) : x % 32 < 32 := md x (by decide) (by decide)
theorem l4 (x : Nat) : x % 4 < 4 := md x (by decide) (by decide)
theorem l256 (x : Nat) : x % 256 < 256 := md x (by decide) (by decide)
theorem lt_of_ne {x k : Nat} (h : x < k + 1) (n : ¬ x = k) : x < k := Nat.lt_of_le_of_ne (Nat.le_of_lt_succ h) n
theorem hi16 (h : Nat) : h % 8 + 8 * (h / 128 % 2) < 16 := by omega
theorem list_lt (x : Nat) : ∀ r ∈ listOf x, r < 16 := fun r hr => by
  unfold listOf at hr
  exact Nat.lt_trans (List.mem_range.mp (List.mem_filter.mp hr).1) (by decide)
theorem list_len (x : Nat) : (listOf x).length ≤ 8 := by
  unfold listOf
  exact Nat.le_trans (List.length_filter_le _ _) (Nat.le_of_eq List.length_range)
theorem wf_list {x k : Nat} {c : Prop} [Decidable c] (hk : k < 16) : (∀ r ∈ listOf x ++ (if c then [k] else []), r < 16) ∧ (listOf x ++ if c then [k] else []).length ≤ 9 := by
  have z : (∀ r ∈ (if c then [k] else []), r < 16) ∧ (if c then [k] else []).length ≤ 1 := by
    by_cases hc : c
    · rw [if_pos hc]; exact ⟨fun r hr => List.mem_singleton.mp hr ▸ hk, Nat.le_refl _⟩
    · rw [if_neg hc]; exact ⟨fun r hr => (List.not_mem_nil hr).elim, Nat.zero_le _⟩
  exact ⟨fun r hr => (List.mem_append.mp hr).elim (list_lt x r) (z.1 r), List.length_append ▸ Nat.add_le_add (list_len x) z.2⟩
theorem classes {h : Nat} (hh : h < 65536) : h / 2048 < 3 ∨ h / 2048 = 3 ∨ (4 ≤ h / 2048 ∧ h / 2048 < 8) ∨ h / 1024 = 16 ∨ h / 1024 = 17 ∨ h / 2048 = 9 ∨ (10 ≤ h / 2048 ∧ h / 2048 < 12) ∨ (12 ≤ h / 2048 ∧ h / 2048 < 18) ∨ (18 ≤ h / 2048 ∧ h / 2048 < 20) ∨ (20 ≤ h / 2048 ∧ h / 2048 < 22) ∨ (22 ≤ h / 2048 ∧ h / 2048 < 24) ∨ (24 ≤ h / 2048 ∧ h / 2048 < 26) ∨ (26 ≤ h / 2048 ∧ h / 2048 < 28) ∨ h / 2048 = 28 ∨ (h / 2048 = 29 ∨ h / 2048 = 31) ∨ h / 2048 = 30 := by
  have d : ∀ u : _root_.Fin 64, u.1 / 2 < 3 ∨ u.1 / 2 = 3 ∨ (4 ≤ u.1 / 2 ∧ u.1 / 2 < 8) ∨ u.1 = 16 ∨ u.1 = 17 ∨ u.1 / 2 = 9 ∨ (10 ≤ u.1 / 2 ∧ u.1 / 2 < 12) ∨ (12 ≤ u.1 / 2 ∧ u.1 / 2 < 18) ∨ (18 ≤ u.1 / 2 ∧ u.1 / 2 < 20) ∨ (20 ≤ u.1 / 2 ∧ u.1 / 2 < 22) ∨ (22 ≤ u.1 / 2 ∧ u.1 / 2 < 24) ∨ (24 ≤ u.1 / 2 ∧ u.1 / 2 < 26) ∨ (26 ≤ u.1 / 2 ∧ u.1 / 2 < 28) ∨ u.1 / 2 = 28 ∨ (u.1 / 2 = 29 ∨ u.1 / 2 = 31) ∨ u.1 / 2 = 30 := by decide +kernel
  have cs := d ⟨h / 1024, Nat.div_lt_of_lt_mul hh⟩
  simp only [u2] at cs
  exact cs
noncomputable def WO (q : Prop) (o : Option Ins) : Prop := ∀ i, o = some i → Wf i ∧ (long i = true → q)
section
variable {q c : Prop} {o o' : Option Ins} {i i' : Ins} [Decidable c]
theorem wo_eq (e : o = o') (h : WO q o') : WO q o := e ▸ h
theorem wo_n : WO q none := fun _ e => by cases e
theorem wo_q (hq : q) (h : Wf i) : WO q (some i) := fun _ e => by cases e; exact ⟨h, fun _ => hq⟩
theorem wo_s (h : Wf i) (hl : long i = false) : WO q (some i) := fun _ e => by cases e; exact ⟨h, fun z => absurd (hl.symm.trans z) Bool.false_ne_true⟩
theorem wo_if (h : c → WO q o) (h' : ¬ c → WO q o') : WO q (if c then o else o') := if hc : c then (if_pos (t := o) (e := o') hc).symm ▸ h hc else (if_neg (t := o) (e := o') hc).symm ▸ h' hc
theorem wo_is (h : WO q (some i)) (h' : WO q (some i')) : WO q (some (if c then i else i')) := if hc : c then (if_pos (t := i) (e := i') hc).symm ▸ h else (if_neg (t := i) (e := i') hc).symm ▸ h'
end
theorem memOp_lt (k : Nat) : memOp k < 8 := by
  unfold memOp
  repeat' split
  all_goals decide
theorem st_lt {c : Prop} [Decidable c] : (if c then 4 else 0) < 8 := by split <;> decide
theorem decode_wf {h nx : Nat} (hh : h < 65536) : WO (h / 2048 = 30) (decode h nx) := by
  rcases classes hh with c | c | c | c | c | c | c | c | c | c | c | c | c | c | c | c
  · exact wo_eq (dec_shift c) (wo_s ⟨c, l8 _, l8 _, l32 _⟩ rfl)
  · exact wo_eq (dec_sum c) (wo_is (wo_s ⟨l8 _, l8 _, md _ (by decide) (by decide)⟩ rfl) (wo_s ⟨l8 _, l8 _, l8 _⟩ rfl))
  · exact wo_eq (dec_byte c.1 c.2) (wo_s ⟨l4 _, l8 _, l256 _⟩ rfl)
  · exact wo_eq (dec_alu c) (wo_s ⟨l16 _, l8 _, l8 _⟩ rfl)
  · exact wo_eq (dec_high c) (wo_if (fun _ => wo_if (fun _ => wo_n) fun _ => wo_s (l16 _) rfl) fun h1 => wo_if (fun _ => wo_n) fun _ => wo_if (fun _ => wo_n) fun _ => wo_s ⟨lt_of_ne (l4 _) h1, hi16 h, l16 _⟩ rfl)
  · exact wo_eq (dec_lit c) (wo_s ⟨l8 _, l256 _⟩ rfl)
  · exact wo_eq (dec_memreg c.1 c.2) (wo_s ⟨md _ (by decide) (by decide), l8 _, l8 _, l8 _⟩ rfl)
  · exact wo_eq (dec_memimm c.1 c.2) (wo_s ⟨memOp_lt _, l8 _, l8 _, md _ (by decide) (by decide)⟩ rfl)
  · exact wo_eq (dec_stack c.1 c.2) (wo_s ⟨st_lt, l8 _, show 13 < 16 by decide, l256 _⟩ rfl)
  · exact wo_eq (dec_adr c.1 c.2) (wo_s ⟨l8 _, l256 _⟩ rfl)
  · exact wo_eq (dec_odd c.1 c.2) (wo_if (fun _ => wo_s (md (n := 256) _ (by decide) (by decide)) rfl) fun _ => wo_if (fun _ => wo_s ⟨l4 _, l8 _, l8 _⟩ rfl) fun _ => wo_if (fun _ => wo_if (fun _ => wo_n) fun _ => wo_s (wf_list (by decide)) rfl) fun _ =>
      wo_if (fun _ => wo_if (fun _ => wo_n) fun _ => wo_s (wf_list (by decide)) rfl) fun _ => wo_if (fun _ => wo_if (fun _ => wo_n) fun h2 => wo_s ⟨l4 _, h2, l8 _, l8 _⟩ rfl) fun _ => wo_if (fun _ => wo_s (l256 _) rfl) fun _ => wo_if (fun _ => wo_s trivial rfl) fun _ => wo_n)
  · exact wo_eq (dec_many c.1 c.2) (wo_if (fun _ => wo_n) fun _ => wo_s ⟨l8 _, list_lt _, Nat.le_succ_of_le (list_len _)⟩ rfl)
  · exact wo_eq (dec_cond c.1 c.2) (wo_if (fun _ => wo_n) fun h1 => wo_if (fun _ => wo_s (l256 _) rfl) fun h2 => wo_s (lt_of_ne (lt_of_ne (l16 _) h2) h1) rfl)
  · exact wo_eq (dec_b c) (wo_s trivial rfl)
  · exact wo_eq (dec_no hh c) wo_n
  · exact wo_eq (dec_wide c) (wo_if (fun _ => wo_q c trivial) fun _ => wo_if (fun _ => wo_q c trivial) fun _ => wo_n)
end Chip

namespace Chip
open PySem L2 LX
theorem nn_tuple : ("tuple" : Str) ≠ "__name__" := by decide +kernel
theorem nn_ord : ("ord" : Str) ≠ "__name__" := by decide +kernel
theorem nn_len : ("len" : Str) ≠ "__name__" := by decide +kernel
theorem nms3 : nmsOk ["WORD", "hexadecimal", "CONDITIONS", "WRITTEN_LIKE", "written_name", "WRITERS", "operands", "memory_of", "instruction_at", "half_text", "bytes_of_text", "length_of", "instruction_text", "text"] = true := by decide +kernel
theorem nms2 : nmsOk ["WITH_BASE_AND_LIST", "condition", "with_sign", "WITH_TARGET", "first", "second", "distance", "sign", "high", "low", "number", "WIDE", "half_at", "is_first_half", "BY_HIGHEST_BITS", "wide", "instruction", "DIGITS", "rest", "digits", "REGISTERS", "at", "written_n", "written_second"] = true := by decide +kernel
theorem nms1 : nmsOk ["x", "WITH_BYTE", "with_high_registers", "TWO_LOW", "OF_TWO_AND_ZERO", "kind", "branch_to_register", "TWO_HIGH", "PC", "OF_ONE", "WITH_PLACE", "BY_REGISTER", "BY_NUMBER", "way", "SP", "EXTENSIONS", "TURNS", "registers", "ninth", "LR", "listed", "WITH_LIST", "ALONE", "ODDS"] = true := by decide +kernel
theorem nms0 : nmsOk ["len", "ord", "tuple", "sorted", "range", "zip", "SIZE", "places", "data", "memory", "byte", "place", "value", "sign_bit", "NONE", "half", "SHIFTS", "i", "name", "d", "m", "OF_TWO", "OF_THREE", "n"] = true := by decide +kernel
noncomputable def top (i : Nat) : Stmt := PySem.Challenge.pw_lesserchip_s02_show.main.body.getD i (.Pass ⟨0, 0, 0, 0⟩)
noncomputable abbrev s_memory_of : Stmt := top 6
theorem sc_memory_of : FnScope ["places", "data", "memory", "place", "byte"] ["places", "data"] (defScope s_memory_of) := ⟨rfl, rfl, rfl, by decide +kernel, rfl, by decide +kernel, by decide +kernel⟩
theorem ok_memory_of : namesOk (defScope s_memory_of) [("SIZE", .globalImplicit), ("memory", .local), ("byte", .local), ("place", .local), ("zip", .globalImplicit), ("places", .local), ("data", .local)] = true := by decide +kernel
noncomputable abbrev s_half_at : Stmt := top 7
theorem sc_half_at : FnScope ["memory", "place"] ["memory", "place"] (defScope s_half_at) := ⟨rfl, rfl, rfl, by decide +kernel, rfl, by decide +kernel, by decide +kernel⟩
theorem ok_half_at : namesOk (defScope s_half_at) [("memory", .local), ("place", .local)] = true := by decide +kernel
noncomputable abbrev s_with_sign : Stmt := top 8
theorem sc_with_sign : FnScope ["value", "sign_bit"] ["value", "sign_bit"] (defScope s_with_sign) := ⟨rfl, rfl, rfl, by decide +kernel, rfl, by decide +kernel, by decide +kernel⟩
theorem ok_with_sign : namesOk (defScope s_with_sign) [("value", .local), ("sign_bit", .local)] = true := by decide +kernel
noncomputable abbrev s_no_instruction : Stmt := top 29
theorem sc_no_instruction : FnScope ["half"] ["half"] (defScope s_no_instruction) := ⟨rfl, rfl, rfl, by decide +kernel, rfl, by decide +kernel, by decide +kernel⟩
theorem ok_no_instruction : namesOk (defScope s_no_instruction) [("NONE", .globalImplicit)] = true := by decide +kernel
noncomputable abbrev s_shift_by_number : Stmt := top 30
theorem sc_shift_by_number : FnScope ["half", "d", "m", "i", "name"] ["half"] (defScope s_shift_by_number) := ⟨rfl, rfl, rfl, by decide +kernel, rfl, by decide +kernel, by decide +kernel⟩
theorem ok_shift_by_number : namesOk (defScope s_shift_by_number) [("half", .local), ("d", .local), ("m", .local), ("i", .local), ("SHIFTS", .globalImplicit), ("name", .local), ("OF_TWO", .globalImplicit), ("OF_THREE", .globalImplicit)] = true := by decide +kernel
noncomputable abbrev s_sum_of_three : Stmt := top 31
theorem sc_sum_of_three : FnScope ["half", "name", "d", "n", "x"] ["half"] (defScope s_sum_of_three) := ⟨rfl, rfl, rfl, by decide +kernel, rfl, by decide +kernel, by decide +kernel⟩
theorem ok_sum_of_three : namesOk (defScope s_sum_of_three) [("half", .local), ("name", .local), ("d", .local), ("n", .local), ("x", .local), ("OF_THREE", .globalImplicit)] = true := by decide +kernel
noncomputable abbrev s_with_byte : Stmt := top 32
theorem sc_with_byte : FnScope ["half", "d"] ["half"] (defScope s_with_byte) := ⟨rfl, rfl, rfl, by decide +kernel, rfl, by decide +kernel, by decide +kernel⟩
theorem ok_with_byte : namesOk (defScope s_with_byte) [("half", .local), ("d", .local), ("WITH_BYTE", .globalImplicit), ("OF_TWO", .globalImplicit)] = true := by decide +kernel
noncomputable abbrev s_with_registers : Stmt := top 33
theorem sc_with_registers : FnScope ["half", "d", "name"] ["half"] (defScope s_with_registers) := ⟨rfl, rfl, rfl, by decide +kernel, rfl, by decide +kernel, by decide +kernel⟩
theorem ok_with_registers : namesOk (defScope s_with_registers) [("half", .local), ("with_high_registers", .globalImplicit), ("d", .local), ("TWO_LOW", .globalImplicit), ("name", .local), ("OF_TWO_AND_ZERO", .globalImplicit), ("OF_TWO", .globalImplicit)] = true := by decide +kernel
noncomputable abbrev s_with_high_registers : Stmt := top 34
theorem sc_with_high_registers : FnScope ["half", "kind", "d", "m", "name"] ["half"] (defScope s_with_high_registers) := ⟨rfl, rfl, rfl, by decide +kernel, rfl, by decide +kernel, by decide +kernel⟩
theorem ok_with_high_registers : namesOk (defScope s_with_high_registers) [("half", .local), ("kind", .local), ("branch_to_register", .globalImplicit), ("d", .local), ("m", .local), ("TWO_HIGH", .globalImplicit), ("name", .local), ("PC", .globalImplicit), ("NONE", .globalImplicit), ("OF_TWO", .globalImplicit)] = true := by decide +kernel
noncomputable abbrev s_branch_to_register : Stmt := top 35
theorem sc_branch_to_register : FnScope ["half", "m"] ["half"] (defScope s_branch_to_register) := ⟨rfl, rfl, rfl, by decide +kernel, rfl, by decide +kernel, by decide +kernel⟩
theorem ok_branch_to_register : namesOk (defScope s_branch_to_register) [("half", .local), ("m", .local), ("PC", .globalImplicit), ("NONE", .globalImplicit), ("OF_ONE", .globalImplicit)] = true := by decide +kernel
noncomputable abbrev s_load_from_program : Stmt := top 36
theorem sc_load_from_program : FnScope ["half"] ["half"] (defScope s_load_from_program) := ⟨rfl, rfl, rfl, by decide +kernel, rfl, by decide +kernel, by decide +kernel⟩
theorem ok_load_from_program : namesOk (defScope s_load_from_program) [("half", .local), ("PC", .globalImplicit), ("WITH_PLACE", .globalImplicit)] = true := by decide +kernel
noncomputable abbrev s_move_by_register : Stmt := top 37
theorem sc_move_by_register : FnScope ["half"] ["half"] (defScope s_move_by_register) := ⟨rfl, rfl, rfl, by decide +kernel, rfl, by decide +kernel, by decide +kernel⟩
theorem ok_move_by_register : namesOk (defScope s_move_by_register) [("BY_REGISTER", .globalImplicit), ("half", .local), ("WITH_PLACE", .globalImplicit)] = true := by decide +kernel
noncomputable abbrev s_move_by_number : Stmt := top 38
theorem sc_move_by_number : FnScope ["half", "way"] ["half"] (defScope s_move_by_number) := ⟨rfl, rfl, rfl, by decide +kernel, rfl, by decide +kernel, by decide +kernel⟩
theorem ok_move_by_number : namesOk (defScope s_move_by_number) [("BY_NUMBER", .globalImplicit), ("half", .local), ("way", .local), ("WITH_PLACE", .globalImplicit)] = true := by decide +kernel
noncomputable abbrev s_move_on_stack : Stmt := top 39
theorem sc_move_on_stack : FnScope ["half", "name"] ["half"] (defScope s_move_on_stack) := ⟨rfl, rfl, rfl, by decide +kernel, rfl, by decide +kernel, by decide +kernel⟩
theorem ok_move_on_stack : namesOk (defScope s_move_on_stack) [("half", .local), ("name", .local), ("SP", .globalImplicit), ("WITH_PLACE", .globalImplicit)] = true := by decide +kernel
noncomputable abbrev s_place_in_program : Stmt := top 40
theorem sc_place_in_program : FnScope ["half"] ["half"] (defScope s_place_in_program) := ⟨rfl, rfl, rfl, by decide +kernel, rfl, by decide +kernel, by decide +kernel⟩
theorem ok_place_in_program : namesOk (defScope s_place_in_program) [("half", .local), ("PC", .globalImplicit), ("OF_THREE", .globalImplicit)] = true := by decide +kernel
noncomputable abbrev s_place_on_stack : Stmt := top 41
theorem sc_place_on_stack : FnScope ["half"] ["half"] (defScope s_place_on_stack) := ⟨rfl, rfl, rfl, by decide +kernel, rfl, by decide +kernel, by decide +kernel⟩
theorem ok_place_on_stack : namesOk (defScope s_place_on_stack) [("half", .local), ("SP", .globalImplicit), ("OF_THREE", .globalImplicit)] = true := by decide +kernel
noncomputable abbrev s_stack_pointer : Stmt := top 42
theorem sc_stack_pointer : FnScope ["half", "name"] ["half"] (defScope s_stack_pointer) := ⟨rfl, rfl, rfl, by decide +kernel, rfl, by decide +kernel, by decide +kernel⟩
theorem ok_stack_pointer : namesOk (defScope s_stack_pointer) [("half", .local), ("name", .local), ("SP", .globalImplicit), ("OF_TWO", .globalImplicit)] = true := by decide +kernel
noncomputable abbrev s_extension : Stmt := top 43
theorem sc_extension : FnScope ["half"] ["half"] (defScope s_extension) := ⟨rfl, rfl, rfl, by decide +kernel, rfl, by decide +kernel, by decide +kernel⟩
theorem ok_extension : namesOk (defScope s_extension) [("EXTENSIONS", .globalImplicit), ("half", .local), ("OF_TWO", .globalImplicit)] = true := by decide +kernel
noncomputable abbrev s_turned_bytes : Stmt := top 44
theorem sc_turned_bytes : FnScope ["half", "name"] ["half"] (defScope s_turned_bytes) := ⟨rfl, rfl, rfl, by decide +kernel, rfl, by decide +kernel, by decide +kernel⟩
theorem ok_turned_bytes : namesOk (defScope s_turned_bytes) [("TURNS", .globalImplicit), ("half", .local), ("name", .local), ("NONE", .globalImplicit), ("OF_TWO", .globalImplicit)] = true := by decide +kernel
noncomputable abbrev s_listed : Stmt := top 45
theorem sc_listed : FnScope ["half", "ninth", "registers", "r"] ["half", "ninth"] (defScope s_listed) := ⟨rfl, rfl, rfl, by decide +kernel, rfl, by decide +kernel, by decide +kernel⟩
theorem blk_listed : BlkOk ["half", "ninth", "registers", "r"] (defScope s_listed) (lcScope (valOf ((defBody s_listed).getD 0 (.Pass ⟨0, 0, 0, 0⟩)))) [("r", 3)] := blkOk_by (by decide +kernel)
theorem ok_listed : namesOk (defScope s_listed) [("range", .globalImplicit), ("half", .cell), ("registers", .local), ("ninth", .local), ("tuple", .globalImplicit)] = true := by decide +kernel
noncomputable abbrev s_push_list : Stmt := top 46
theorem sc_push_list : FnScope ["half"] ["half"] (defScope s_push_list) := ⟨rfl, rfl, rfl, by decide +kernel, rfl, by decide +kernel, by decide +kernel⟩
theorem ok_push_list : namesOk (defScope s_push_list) [("half", .local), ("NONE", .globalImplicit), ("SP", .globalImplicit), ("listed", .globalImplicit), ("LR", .globalImplicit), ("WITH_LIST", .globalImplicit)] = true := by decide +kernel
noncomputable abbrev s_pop_list : Stmt := top 47
theorem sc_pop_list : FnScope ["half"] ["half"] (defScope s_pop_list) := ⟨rfl, rfl, rfl, by decide +kernel, rfl, by decide +kernel, by decide +kernel⟩
theorem ok_pop_list : namesOk (defScope s_pop_list) [("half", .local), ("NONE", .globalImplicit), ("SP", .globalImplicit), ("listed", .globalImplicit), ("PC", .globalImplicit), ("WITH_LIST", .globalImplicit)] = true := by decide +kernel
noncomputable abbrev s_bkpt : Stmt := top 48
theorem sc_bkpt : FnScope ["half"] ["half"] (defScope s_bkpt) := ⟨rfl, rfl, rfl, by decide +kernel, rfl, by decide +kernel, by decide +kernel⟩
theorem ok_bkpt : namesOk (defScope s_bkpt) [("half", .local), ("OF_ONE", .globalImplicit)] = true := by decide +kernel
noncomputable abbrev s_hint : Stmt := top 49
theorem sc_hint : FnScope ["half"] ["half"] (defScope s_hint) := ⟨rfl, rfl, rfl, by decide +kernel, rfl, by decide +kernel, by decide +kernel⟩
theorem ok_hint : namesOk (defScope s_hint) [("half", .local), ("NONE", .globalImplicit), ("ALONE", .globalImplicit)] = true := by decide +kernel
noncomputable abbrev s_odds : Stmt := top 51
theorem sc_odds : FnScope ["half"] ["half"] (defScope s_odds) := ⟨rfl, rfl, rfl, by decide +kernel, rfl, by decide +kernel, by decide +kernel⟩
theorem ok_odds : namesOk (defScope s_odds) [("ODDS", .globalImplicit), ("half", .local)] = true := by decide +kernel
noncomputable abbrev s_store_list : Stmt := top 52
theorem sc_store_list : FnScope ["half", "n", "registers"] ["half"] (defScope s_store_list) := ⟨rfl, rfl, rfl, by decide +kernel, rfl, by decide +kernel, by decide +kernel⟩
theorem ok_store_list : namesOk (defScope s_store_list) [("half", .local), ("n", .local), ("listed", .globalImplicit), ("registers", .local), ("len", .globalImplicit), ("NONE", .globalImplicit), ("WITH_BASE_AND_LIST", .globalImplicit)] = true := by decide +kernel
noncomputable abbrev s_load_list : Stmt := top 53
theorem sc_load_list : FnScope ["half"] ["half"] (defScope s_load_list) := ⟨rfl, rfl, rfl, by decide +kernel, rfl, by decide +kernel, by decide +kernel⟩
theorem ok_load_list : namesOk (defScope s_load_list) [("half", .local), ("NONE", .globalImplicit), ("listed", .globalImplicit), ("WITH_BASE_AND_LIST", .globalImplicit)] = true := by decide +kernel
noncomputable abbrev s_branch_if : Stmt := top 54
theorem sc_branch_if : FnScope ["half", "condition"] ["half"] (defScope s_branch_if) := ⟨rfl, rfl, rfl, by decide +kernel, rfl, by decide +kernel, by decide +kernel⟩
theorem ok_branch_if : namesOk (defScope s_branch_if) [("half", .local), ("condition", .local), ("NONE", .globalImplicit), ("OF_ONE", .globalImplicit), ("with_sign", .globalImplicit), ("WITH_TARGET", .globalImplicit)] = true := by decide +kernel
noncomputable abbrev s_branch : Stmt := top 55
theorem sc_branch : FnScope ["half"] ["half"] (defScope s_branch) := ⟨rfl, rfl, rfl, by decide +kernel, rfl, by decide +kernel, by decide +kernel⟩
theorem ok_branch : namesOk (defScope s_branch) [("with_sign", .globalImplicit), ("half", .local), ("WITH_TARGET", .globalImplicit)] = true := by decide +kernel
noncomputable abbrev s_wide : Stmt := top 56
theorem sc_wide : FnScope ["first", "second"] ["first", "second"] (defScope s_wide) := ⟨rfl, rfl, rfl, by decide +kernel, rfl, by decide +kernel, by decide +kernel⟩
theorem ok_wide : namesOk (defScope s_wide) [("first", .local), ("second", .local), ("ALONE", .globalImplicit), ("distance", .globalImplicit), ("WITH_TARGET", .globalImplicit), ("NONE", .globalImplicit)] = true := by decide +kernel
noncomputable abbrev s_distance : Stmt := top 57
theorem sc_distance : FnScope ["first", "second", "sign", "high", "low", "number"] ["first", "second"] (defScope s_distance) := ⟨rfl, rfl, rfl, by decide +kernel, rfl, by decide +kernel, by decide +kernel⟩
theorem ok_distance : namesOk (defScope s_distance) [("first", .local), ("sign", .local), ("second", .local), ("high", .local), ("low", .local), ("number", .local), ("with_sign", .globalImplicit)] = true := by decide +kernel
noncomputable abbrev s_is_first_half : Stmt := top 59
theorem sc_is_first_half : FnScope ["half"] ["half"] (defScope s_is_first_half) := ⟨rfl, rfl, rfl, by decide +kernel, rfl, by decide +kernel, by decide +kernel⟩
theorem ok_is_first_half : namesOk (defScope s_is_first_half) [("half", .local), ("WIDE", .globalImplicit)] = true := by decide +kernel
noncomputable abbrev s_instruction_at : Stmt := top 60
theorem sc_instruction_at : FnScope ["memory", "place", "half"] ["memory", "place"] (defScope s_instruction_at) := ⟨rfl, rfl, rfl, by decide +kernel, rfl, by decide +kernel, by decide +kernel⟩
theorem ok_instruction_at : namesOk (defScope s_instruction_at) [("half_at", .globalImplicit), ("memory", .local), ("place", .local), ("half", .local), ("is_first_half", .globalImplicit), ("BY_HIGHEST_BITS", .globalImplicit), ("SIZE", .globalImplicit), ("NONE", .globalImplicit), ("wide", .globalImplicit)] = true := by decide +kernel
noncomputable abbrev s_length_of : Stmt := top 61
theorem sc_length_of : FnScope ["instruction"] ["instruction"] (defScope s_length_of) := ⟨rfl, rfl, rfl, by decide +kernel, rfl, by decide +kernel, by decide +kernel⟩
theorem ok_length_of : namesOk (defScope s_length_of) [("instruction", .local)] = true := by decide +kernel
noncomputable abbrev s_hexadecimal : Stmt := top 67
theorem sc_hexadecimal : FnScope ["number", "digits", "rest"] ["number"] (defScope s_hexadecimal) := ⟨rfl, rfl, rfl, by decide +kernel, rfl, by decide +kernel, by decide +kernel⟩
theorem ok_hexadecimal : namesOk (defScope s_hexadecimal) [("DIGITS", .globalImplicit), ("number", .local), ("digits", .local), ("rest", .local)] = true := by decide +kernel
noncomputable abbrev s_written_d : Stmt := top 68
theorem sc_written_d : FnScope ["instruction", "at"] ["instruction", "at"] (defScope s_written_d) := ⟨rfl, rfl, rfl, by decide +kernel, rfl, by decide +kernel, by decide +kernel⟩
theorem ok_written_d : namesOk (defScope s_written_d) [("REGISTERS", .globalImplicit), ("instruction", .local)] = true := by decide +kernel
noncomputable abbrev s_written_n : Stmt := top 69
theorem sc_written_n : FnScope ["instruction", "at"] ["instruction", "at"] (defScope s_written_n) := ⟨rfl, rfl, rfl, by decide +kernel, rfl, by decide +kernel, by decide +kernel⟩
theorem ok_written_n : namesOk (defScope s_written_n) [("REGISTERS", .globalImplicit), ("instruction", .local)] = true := by decide +kernel
noncomputable abbrev s_written_second : Stmt := top 70
theorem sc_written_second : FnScope ["instruction", "at", "m", "i"] ["instruction", "at"] (defScope s_written_second) := ⟨rfl, rfl, rfl, by decide +kernel, rfl, by decide +kernel, by decide +kernel⟩
theorem ok_written_second : namesOk (defScope s_written_second) [("instruction", .local), ("m", .local), ("i", .local), ("REGISTERS", .globalImplicit)] = true := by decide +kernel
noncomputable abbrev s_written_zero : Stmt := top 71
theorem sc_written_zero : FnScope ["instruction", "at"] ["instruction", "at"] (defScope s_written_zero) := ⟨rfl, rfl, rfl, by decide +kernel, rfl, by decide +kernel, by decide +kernel⟩
noncomputable abbrev s_written_place : Stmt := top 72
theorem sc_written_place : FnScope ["instruction", "at"] ["instruction", "at"] (defScope s_written_place) := ⟨rfl, rfl, rfl, by decide +kernel, rfl, by decide +kernel, by decide +kernel⟩
theorem ok_written_place : namesOk (defScope s_written_place) [("written_n", .globalImplicit), ("instruction", .local), ("at", .local), ("written_second", .globalImplicit)] = true := by decide +kernel
noncomputable abbrev s_written_base : Stmt := top 73
theorem sc_written_base : FnScope ["instruction", "at", "n"] ["instruction", "at"] (defScope s_written_base) := ⟨rfl, rfl, rfl, by decide +kernel, rfl, by decide +kernel, by decide +kernel⟩
theorem ok_written_base : namesOk (defScope s_written_base) [("written_n", .globalImplicit), ("instruction", .local), ("at", .local), ("n", .local)] = true := by decide +kernel
noncomputable abbrev s_written_list : Stmt := top 74
theorem sc_written_list : FnScope ["instruction", "at", "r"] ["instruction", "at"] (defScope s_written_list) := ⟨rfl, rfl, rfl, by decide +kernel, rfl, by decide +kernel, by decide +kernel⟩
theorem blk_written_list : BlkOk ["instruction", "at", "r"] (defScope s_written_list) (lcScope (valOf ((defBody s_written_list).getD 0 (.Pass ⟨0, 0, 0, 0⟩)))) [("r", 2)] := blkOk_by (by decide +kernel)
theorem ok_written_list : namesOk (defScope s_written_list) [("instruction", .local)] = true := by decide +kernel
noncomputable abbrev s_written_target : Stmt := top 75
theorem sc_written_target : FnScope ["instruction", "at"] ["instruction", "at"] (defScope s_written_target) := ⟨rfl, rfl, rfl, by decide +kernel, rfl, by decide +kernel, by decide +kernel⟩
theorem ok_written_target : namesOk (defScope s_written_target) [("hexadecimal", .globalImplicit), ("at", .local), ("instruction", .local), ("WORD", .globalImplicit)] = true := by decide +kernel
noncomputable abbrev s_written_name : Stmt := top 77
theorem sc_written_name : FnScope ["instruction", "name"] ["instruction"] (defScope s_written_name) := ⟨rfl, rfl, rfl, by decide +kernel, rfl, by decide +kernel, by decide +kernel⟩
theorem ok_written_name : namesOk (defScope s_written_name) [("instruction", .local), ("name", .local), ("CONDITIONS", .globalImplicit), ("WRITTEN_LIKE", .globalImplicit)] = true := by decide +kernel
noncomputable abbrev s_instruction_text : Stmt := top 78
theorem sc_instruction_text : FnScope ["instruction", "at", "name", "operands", "word"] ["instruction", "at"] (defScope s_instruction_text) := ⟨rfl, rfl, rfl, by decide +kernel, rfl, by decide +kernel, by decide +kernel⟩
theorem blk_instruction_text : BlkOk ["instruction", "at", "name", "operands", "word"] (defScope s_instruction_text) (lcScope (valOf ((defBody s_instruction_text).getD 1 (.Pass ⟨0, 0, 0, 0⟩)))) [("word", 4)] := blkOk_by (by decide +kernel)
theorem ok_instruction_text : namesOk (defScope s_instruction_text) [("written_name", .globalImplicit), ("instruction", .cell), ("name", .local), ("len", .globalImplicit), ("operands", .local)] = true := by decide +kernel
noncomputable abbrev s_half_text : Stmt := top 79
theorem sc_half_text : FnScope ["half"] ["half"] (defScope s_half_text) := ⟨rfl, rfl, rfl, by decide +kernel, rfl, by decide +kernel, by decide +kernel⟩
theorem ok_half_text : namesOk (defScope s_half_text) [("hexadecimal", .globalImplicit), ("half", .local)] = true := by decide +kernel
noncomputable abbrev s_show : Stmt := top 81
theorem sc_show : FnScope ["at", "places", "data", "memory", "instruction"] ["at", "places", "data"] (defScope s_show) := ⟨rfl, rfl, rfl, by decide +kernel, rfl, by decide +kernel, by decide +kernel⟩
theorem ok_show : namesOk (defScope s_show) [("at", .local), ("SIZE", .globalImplicit), ("memory_of", .globalImplicit), ("places", .local), ("data", .local), ("memory", .local), ("instruction_at", .globalImplicit), ("instruction", .local), ("bytes_of_text", .globalImplicit), ("half_text", .globalImplicit), ("half_at", .globalImplicit), ("length_of", .globalImplicit), ("instruction_text", .globalImplicit)] = true := by decide +kernel
noncomputable abbrev s_bytes_of_text : Stmt := top 82
theorem sc_bytes_of_text : FnScope ["text", "sign"] ["text"] (defScope s_bytes_of_text) := ⟨rfl, rfl, rfl, by decide +kernel, rfl, by decide +kernel, by decide +kernel⟩
theorem blk_bytes_of_text : BlkOk ["text", "sign"] (defScope s_bytes_of_text) (lcScope (valOf ((defBody s_bytes_of_text).getD 0 (.Pass ⟨0, 0, 0, 0⟩)))) [("sign", 1)] := blkOk_by (by decide +kernel)
theorem ok_bytes_of_text : namesOk (defScope s_bytes_of_text) [("text", .local)] = true := by decide +kernel
structure Txt (K : PySem.W.Frag) (mg : Str → Option Value) : Prop where
  n_len : mg "len" = none
  n_ord : mg "ord" = none
  n_range : mg "range" = none
  n_tuple : mg "tuple" = none
  n_zip : mg "zip" = none
  c_SIZE : ∃ t, mg "SIZE" = some (.int ((65536 : Nat) : Int) t)
  c_WORD : ∃ t, mg "WORD" = some (.int ((4294967295 : Nat) : Int) t)
  c_SP : ∃ t, mg "SP" = some (.int ((13 : Nat) : Int) t)
  c_LR : ∃ t, mg "LR" = some (.int ((14 : Nat) : Int) t)
  c_PC : ∃ t, mg "PC" = some (.int ((15 : Nat) : Int) t)
  c_NONE : ∃ a, mg "NONE" = some (.ref a) ∧ ∃ e, TupK K [.str "none", .non, .non, .non, .int 0, .ref e] a ∧ TupK K [] e
  c_WIDE : ∃ t, mg "WIDE" = some (.int ((30 : Nat) : Int) t)
  c_ALONE : ∃ a, mg "ALONE" = some (.ref a) ∧ TupK K [] a
  c_OF_ONE : ∃ a, mg "OF_ONE" = some (.ref a) ∧ TupK K [.str "second"] a
  c_OF_TWO : ∃ a, mg "OF_TWO" = some (.ref a) ∧ TupK K [.str "d", .str "second"] a
  c_OF_TWO_AND_ZERO : ∃ a, mg "OF_TWO_AND_ZERO" = some (.ref a) ∧ TupK K [.str "d", .str "second", .str "zero"] a
  c_OF_THREE : ∃ a, mg "OF_THREE" = some (.ref a) ∧ TupK K [.str "d", .str "n", .str "second"] a
  c_WITH_PLACE : ∃ a, mg "WITH_PLACE" = some (.ref a) ∧ TupK K [.str "d", .str "place"] a
  c_WITH_LIST : ∃ a, mg "WITH_LIST" = some (.ref a) ∧ TupK K [.str "list"] a
  c_WITH_BASE_AND_LIST : ∃ a, mg "WITH_BASE_AND_LIST" = some (.ref a) ∧ TupK K [.str "base", .str "list"] a
  c_WITH_TARGET : ∃ a, mg "WITH_TARGET" = some (.ref a) ∧ TupK K [.str "target"] a
  c_SHIFTS : ∃ a, mg "SHIFTS" = some (.ref a) ∧ TupK K [.str "lsls", .str "lsrs", .str "asrs"] a
  c_WITH_BYTE : ∃ a, mg "WITH_BYTE" = some (.ref a) ∧ TupK K [.str "movs", .str "cmp", .str "adds", .str "subs"] a
  c_TWO_LOW : ∃ a, mg "TWO_LOW" = some (.ref a) ∧ TupK K [.str "ands", .str "eors", .str "lsls", .str "lsrs", .str "asrs", .str "adcs", .str "sbcs", .str "rors", .str "tst", .str "rsbs", .str "cmp", .str "cmn", .str "orrs", .str "muls", .str "bics", .str "mvns"] a
  c_TWO_HIGH : ∃ a, mg "TWO_HIGH" = some (.ref a) ∧ TupK K [.str "add", .str "cmp", .str "mov"] a
  c_BY_REGISTER : ∃ a, mg "BY_REGISTER" = some (.ref a) ∧ TupK K [.str "str", .str "strh", .str "strb", .str "ldrsb", .str "ldr", .str "ldrh", .str "ldrb", .str "ldrsh"] a
  c_BY_NUMBER : ∃ a, mg "BY_NUMBER" = some (.ref a) ∧ ∃ e0 e1 e2 e3 e4 e5, TupK K [.ref e0, .ref e1, .ref e2, .ref e3, .ref e4, .ref e5] a ∧ TupK K [.str "str", .int 4] e0 ∧ TupK K [.str "ldr", .int 4] e1 ∧ TupK K [.str "strb", .int 1] e2 ∧ TupK K [.str "ldrb", .int 1] e3 ∧ TupK K [.str "strh", .int 2] e4 ∧ TupK K [.str "ldrh", .int 2] e5
  c_EXTENSIONS : ∃ a, mg "EXTENSIONS" = some (.ref a) ∧ TupK K [.str "sxth", .str "sxtb", .str "uxth", .str "uxtb"] a
  c_TURNS : ∃ a, mg "TURNS" = some (.ref a) ∧ TupK K [.str "rev", .str "rev16", .str "none", .str "revsh"] a
  c_ODDS : ∃ a, mg "ODDS" = some (.ref a) ∧ ∃ fs : List Addr, TupK K (fs.map V.ref) a ∧ Paired (fun (f : Addr) (x : Str) => mg x = some (.ref f)) fs ["stack_pointer", "no_instruction", "extension", "no_instruction", "push_list", "push_list", "no_instruction", "no_instruction", "no_instruction", "no_instruction", "turned_bytes", "no_instruction", "pop_list", "pop_list", "bkpt", "hint"]
  c_BY_HIGHEST_BITS : ∃ a, mg "BY_HIGHEST_BITS" = some (.ref a) ∧ ∃ fs : List Addr, TupK K (fs.map V.ref) a ∧ Paired (fun (f : Addr) (x : Str) => mg x = some (.ref f)) fs ((["shift_by_number", "shift_by_number", "shift_by_number", "sum_of_three", "with_byte", "with_byte", "with_byte", "with_byte", "with_registers", "load_from_program", "move_by_register", "move_by_register", "move_by_number", "move_by_number", "move_by_number", "move_by_number", "move_by_number", "move_by_number", "move_on_stack", "move_on_stack"] : List Str) ++ (["place_in_program", "place_on_stack", "odds", "odds", "store_list", "load_list", "branch_if", "branch_if", "branch", "no_instruction", "no_instruction", "no_instruction"] : List Str))
  c_REGISTERS : ∃ a, mg "REGISTERS" = some (.ref a) ∧ TupK K [.str "r0", .str "r1", .str "r2", .str "r3", .str "r4", .str "r5", .str "r6", .str "r7", .str "r8", .str "r9", .str "r10", .str "r11", .str "r12", .str "sp", .str "lr", .str "pc"] a
  c_CONDITIONS : ∃ a, mg "CONDITIONS" = some (.ref a) ∧ TupK K [.str "eq", .str "ne", .str "cs", .str "cc", .str "mi", .str "pl", .str "vs", .str "vc", .str "hi", .str "ls", .str "ge", .str "lt", .str "gt", .str "le"] a
  c_DIGITS : ∃ t, mg "DIGITS" = some (.str "0123456789abcdef" t)
  c_WRITTEN_LIKE : ∃ a, mg "WRITTEN_LIKE" = some (.ref a) ∧ TabK K a [("ldr_pc", .str "ldr"), ("add_pc", .str "add")]
  c_WRITERS : ∃ a, mg "WRITERS" = some (.ref a) ∧ ∃ fs : List Addr, TabK K a ((["d", "n", "second", "zero", "place", "base", "list", "target"] : List Str).zip (fs.map V.ref)) ∧ Paired (fun (f : Addr) (x : Str) => mg x = some (.ref f)) fs ["written_d", "written_n", "written_second", "written_zero", "written_place", "written_base", "written_list", "written_target"]
  d_memory_of : Def K mg "memory_of" s_memory_of
  d_half_at : Def K mg "half_at" s_half_at
  d_with_sign : Def K mg "with_sign" s_with_sign
  d_no_instruction : Def K mg "no_instruction" s_no_instruction
  d_shift_by_number : Def K mg "shift_by_number" s_shift_by_number
  d_sum_of_three : Def K mg "sum_of_three" s_sum_of_three
  d_with_byte : Def K mg "with_byte" s_with_byte
  d_with_registers : Def K mg "with_registers" s_with_registers
  d_with_high_registers : Def K mg "with_high_registers" s_with_high_registers
  d_branch_to_register : Def K mg "branch_to_register" s_branch_to_register
  d_load_from_program : Def K mg "load_from_program" s_load_from_program
  d_move_by_register : Def K mg "move_by_register" s_move_by_register
  d_move_by_number : Def K mg "move_by_number" s_move_by_number
  d_move_on_stack : Def K mg "move_on_stack" s_move_on_stack
  d_place_in_program : Def K mg "place_in_program" s_place_in_program
  d_place_on_stack : Def K mg "place_on_stack" s_place_on_stack
  d_stack_pointer : Def K mg "stack_pointer" s_stack_pointer
  d_extension : Def K mg "extension" s_extension
  d_turned_bytes : Def K mg "turned_bytes" s_turned_bytes
  d_listed : Def K mg "listed" s_listed
  d_push_list : Def K mg "push_list" s_push_list
  d_pop_list : Def K mg "pop_list" s_pop_list
  d_bkpt : Def K mg "bkpt" s_bkpt
  d_hint : Def K mg "hint" s_hint
  d_odds : Def K mg "odds" s_odds
  d_store_list : Def K mg "store_list" s_store_list
  d_load_list : Def K mg "load_list" s_load_list
  d_branch_if : Def K mg "branch_if" s_branch_if
  d_branch : Def K mg "branch" s_branch
  d_wide : Def K mg "wide" s_wide
  d_distance : Def K mg "distance" s_distance
  d_is_first_half : Def K mg "is_first_half" s_is_first_half
  d_instruction_at : Def K mg "instruction_at" s_instruction_at
  d_length_of : Def K mg "length_of" s_length_of
  d_hexadecimal : Def K mg "hexadecimal" s_hexadecimal
  d_written_d : Def K mg "written_d" s_written_d
  d_written_n : Def K mg "written_n" s_written_n
  d_written_second : Def K mg "written_second" s_written_second
  d_written_zero : Def K mg "written_zero" s_written_zero
  d_written_place : Def K mg "written_place" s_written_place
  d_written_base : Def K mg "written_base" s_written_base
  d_written_list : Def K mg "written_list" s_written_list
  d_written_target : Def K mg "written_target" s_written_target
  d_written_name : Def K mg "written_name" s_written_name
  d_instruction_text : Def K mg "instruction_text" s_instruction_text
  d_half_text : Def K mg "half_text" s_half_text
  d_show : Def K mg "show" s_show
  d_bytes_of_text : Def K mg "bytes_of_text" s_bytes_of_text
end Chip

namespace Chip
open PySem L2 LX
theorem map_at {m : List Nat} {p : Nat} (h : p < m.length) : (m.map vN)[p]? = some (vN (m.getD p 0)) := by
  rw [List.getElem?_map, List.getElem?_eq_getElem h, List.getD_eq_getElem?_getD, List.getElem?_eq_getElem h]
  rfl
theorem getD_lt {m : List Nat} (h : ∀ x ∈ m, x < 256) (p : Nat) : m.getD p 0 < 256 := by
  rw [List.getD_eq_getElem?_getD]
  cases e : m[p]? with
  | none => show 0 < 256; omega
  | some v => exact h v (List.mem_of_getElem? e)
theorem or_bytes {a b : Nat} (h : a < 256) : a ||| b * 2 ^ 8 = a + 256 * b := by
  rw [Nat.or_comm, Nat.mul_comm, ← Nat.two_pow_add_eq_or_of_lt (i := 8) h]
  omega
section
variable {P : Program} {w : World} {K : PySem.W.Frag} {mg : Str → Option Value} {base : Heap}
noncomputable def half (m : List Nat) (p : Nat) : Nat := m.getD p 0 + 256 * m.getD (p + 1) 0
noncomputable def sp_half_at (K : PySem.W.Frag) : Sp := fun vs H Q _ => ∃ (a : Addr) (m : List Nat) (p : Nat), vs = [.ref a, vN p] ∧ SqL K H a (m.map vN) ∧ (∀ x ∈ m, x < 256) ∧ p + 1 < m.length ∧ Q (vN (half m p)) H
theorem fn_half_at (T : Txt K mg) : Fn P w K mg base "half_at" 1 ["memory", "place"] (sp_half_at K) := by
  refine T.d_half_at.fn sc_half_at (fun _ _ _ _ _ _ => ln2 (fun _ _ => rfl)) (fun vs H Q E h => ?_) (fun f cdv A outer s H vs Q E hr h => ?_)
  · obtain ⟨a, m, p, rfl, _⟩ := h
    rfl
  · obtain ⟨a, m, p, rfl, hS, hb, hp, k⟩ := h
    refine ⟨_, (@pss_one _ _ _ (@ps_ret _ _ _ _ (@pe_op _ _ _ _ _ _ _ _ n_or (@pe_ix _ _ _ _ _ _ _ ix_list (@pvx _ _ _ 0 (.inl (lk ok_half_at (i := 0) rfl)) (nmk nms0 (i := 9) rfl) rfl) (@pvx _ _ _ 1 (.inl (lk ok_half_at (i := 1) rfl)) (nmk nms0 (i := 11) rfl) rfl) (fun _ _ => rfl)) (@pe_op _ _ _ _ _ _ _ _ n_shl (@pe_ix _ _ _ _ _ _ _ ix_list (@pvx _ _ _ 0 (.inl (lk ok_half_at (i := 0) rfl)) (nmk nms0 (i := 9) rfl) rfl) (@pe_op _ _ _ _ _ _ _ _ n_add (@pvx _ _ _ 1 (.inl (lk ok_half_at (i := 1) rfl)) (nmk nms0 (i := 11) rfl) rfl) (@pn _ 1 _ _)) (fun _ _ => rfl)) (@pn _ 8 _ _))))), ?_⟩
    refine is_n (is_ixL (is_var rfl) (is_var rfl) hS (map_at (Nat.lt_of_succ_lt hp))) (is_nc (is_ixL (is_var rfl) (is_n (is_var rfl) is_c) hS (map_at hp)) is_c ?_) _ ?_
    · exact ⟨Nat.lt_trans (getD_lt hb (p + 1)) (by decide), (by decide : 8 ≤ 1000000)⟩
    · show Q (vN (m.getD p 0 ||| m.getD (p + 1) 0 * 2 ^ 8)) H
      rw [or_bytes (getD_lt hb p)]
      exact k
end
end Chip

namespace Chip
open PySem L2 LX
structure Ab where
  name : Str
  d : V
  n : V
  m : V
  i : Sum Int (List Nat)
  ops : List Str
noncomputable def InsAt (K : PySem.W.Frag) (H : Hp) (p : Addr) (b : Ab) : Prop := ∃ (iv : V) (po : Addr), SqT K H p [.str b.name, b.d, b.n, b.m, iv, .ref po] ∧ SqT K H po (b.ops.map V.str) ∧
  (match b.i with | .inl z => iv = .int z | .inr l => ∃ q, iv = .ref q ∧ SqT K H q (l.map vN))
theorem InsAt.same {K : PySem.W.Frag} {H H' : Hp} {p : Addr} {b : Ab} (e : Same H H') (h : InsAt K H p b) : InsAt K H' p b := by
  obtain ⟨iv, po, h1, h2, h3⟩ := h
  refine ⟨iv, po, SqT.same e h1, SqT.same e h2, ?_⟩
  cases hi : b.i with
  | inl z => rw [hi] at h3; exact h3
  | inr l =>
    rw [hi] at h3
    obtain ⟨q, e1, e2⟩ := h3
    exact ⟨q, e1, SqT.same e e2⟩
noncomputable def shiftNames : List Str := ["lsls", "lsrs", "asrs"]
noncomputable def byteNames : List Str := ["movs", "cmp", "adds", "subs"]
noncomputable def lowNames : List Str := ["ands", "eors", "lsls", "lsrs", "asrs", "adcs", "sbcs", "rors", "tst", "rsbs", "cmp", "cmn", "orrs", "muls", "bics", "mvns"]
noncomputable def highNames : List Str := ["add", "cmp", "mov"]
noncomputable def memNames : List Str := ["str", "strh", "strb", "ldrsb", "ldr", "ldrh", "ldrb", "ldrsh"]
noncomputable def extNames : List Str := ["sxth", "sxtb", "uxth", "uxtb"]
noncomputable def turnNames : List Str := ["rev", "rev16", "none", "revsh"]
noncomputable def memSize (op : Nat) : Nat := if op = 0 ∨ op = 4 then 4 else if op = 1 ∨ op = 5 then 2 else 1
noncomputable def abI (i : Sd12.Ins) : Ab := match i with
  | .shiftImm k rd rm n => if k = 0 ∧ n = 0 then ⟨"movs", vN rd, .non, vN rm, .inl 0, ["d", "second"]⟩ else ⟨shiftNames.getD k "", vN rd, vN rm, .non, .inl ((if n = 0 then 32 else n : Nat) : Int), ["d", "n", "second"]⟩
  | .addReg sub rd rn rm => ⟨if sub = true then "subs" else "adds", vN rd, vN rn, vN rm, .inl 0, ["d", "n", "second"]⟩
  | .addImm3 sub rd rn k => ⟨if sub = true then "subs" else "adds", vN rd, vN rn, .non, .inl (k : Nat), ["d", "n", "second"]⟩
  | .imm8 op rd k => ⟨byteNames.getD op "", vN rd, vN rd, .non, .inl (k : Nat), ["d", "second"]⟩
  | .alu op rd rm => ⟨lowNames.getD op "", vN rd, vN rd, vN rm, .inl 0, if op = 9 then ["d", "second", "zero"] else ["d", "second"]⟩
  | .high op rd rm => ⟨highNames.getD op "", vN rd, vN rd, vN rm, .inl 0, ["d", "second"]⟩
  | .branchReg l rm => ⟨if l = true then "blx" else "bx", .non, .non, vN rm, .inl 0, ["second"]⟩
  | .literal rt k => ⟨"ldr_pc", vN rt, vN 15, .non, .inl ((4 * k : Nat) : Int), ["d", "place"]⟩
  | .memReg op rt rn rm => ⟨memNames.getD op "", vN rt, vN rn, vN rm, .inl 0, ["d", "place"]⟩
  | .memImm op rt rn k => ⟨memNames.getD op "", vN rt, vN rn, .non, .inl ((memSize op * k : Nat) : Int), ["d", "place"]⟩
  | .adr sp rd k => if sp = true then ⟨"add", vN rd, vN 13, .non, .inl ((4 * k : Nat) : Int), ["d", "n", "second"]⟩ else ⟨"add_pc", vN rd, vN 15, .non, .inl ((4 * k : Nat) : Int), ["d", "n", "second"]⟩
  | .spMove sub k => ⟨if sub = true then "sub" else "add", vN 13, vN 13, .non, .inl ((4 * k : Nat) : Int), ["d", "second"]⟩
  | .extend op rd rm => ⟨extNames.getD op "", vN rd, .non, vN rm, .inl 0, ["d", "second"]⟩
  | .reverse op rd rm => ⟨turnNames.getD op "", vN rd, .non, vN rm, .inl 0, ["d", "second"]⟩
  | .push l => ⟨"push", .non, vN 13, .non, .inr l, ["list"]⟩
  | .pop l => ⟨"pop", .non, vN 13, .non, .inr l, ["list"]⟩
  | .many load rn l => ⟨if load = true then "ldm" else "stm", .non, vN rn, .non, .inr l, ["base", "list"]⟩
  | .cond c off => ⟨"b_if", vN c, .non, .non, .inl off, ["target"]⟩
  | .branch off => ⟨"b", .non, .non, .non, .inl off, ["target"]⟩
  | .link off => ⟨"bl", .non, .non, .non, .inl off, ["target"]⟩
  | .call k => ⟨"svc", .non, .non, .non, .inl (k : Nat), ["second"]⟩
  | .halt_ k => ⟨"bkpt", .non, .non, .non, .inl (k : Nat), ["second"]⟩
  | .nothing l => ⟨if l = true then "barrier" else "nop", .non, .non, .non, .inl 0, []⟩
noncomputable def abN : Ab := ⟨"none", .non, .non, .non, .inl 0, []⟩
noncomputable def abOf : Option Sd12.Ins → Ab
  | none => abN
  | some i => abI i
theorem m1 (h : Nat) : h &&& 1 = h % 2 := Nat.and_two_pow_sub_one_eq_mod h 1
theorem m3 (h : Nat) : h &&& 3 = h % 4 := Nat.and_two_pow_sub_one_eq_mod h 2
theorem m7 (h : Nat) : h &&& 7 = h % 8 := Nat.and_two_pow_sub_one_eq_mod h 3
theorem m15 (h : Nat) : h &&& 15 = h % 16 := Nat.and_two_pow_sub_one_eq_mod h 4
theorem m31 (h : Nat) : h &&& 31 = h % 32 := Nat.and_two_pow_sub_one_eq_mod h 5
theorem m127 (h : Nat) : h &&& 127 = h % 128 := Nat.and_two_pow_sub_one_eq_mod h 7
theorem m255 (h : Nat) : h &&& 255 = h % 256 := Nat.and_two_pow_sub_one_eq_mod h 8
theorem m511 (h : Nat) : h &&& 511 = h % 512 := Nat.and_two_pow_sub_one_eq_mod h 9
theorem m1023 (h : Nat) : h &&& 1023 = h % 1024 := Nat.and_two_pow_sub_one_eq_mod h 10
theorem m2047 (h : Nat) : h &&& 2047 = h % 2048 := Nat.and_two_pow_sub_one_eq_mod h 11
theorem one_bit (h k : Nat) : h &&& 2 ^ k = h / 2 ^ k % 2 * 2 ^ k := by
  apply Nat.eq_of_testBit_eq
  intro i
  rw [Nat.testBit_and, Nat.testBit_two_pow, Nat.testBit_mul_two_pow]
  by_cases e : k = i
  · subst e
    simp only [Nat.sub_self, Nat.le_refl, decide_true, Bool.true_and, Bool.and_true]
    rw [Nat.testBit_eq_decide_div_mod_eq, Nat.testBit_eq_decide_div_mod_eq]
    simp
  · rw [decide_eq_false e, Bool.and_false]
    by_cases l : k ≤ i
    · rw [decide_eq_true l, Bool.true_and]
      rw [Nat.testBit_eq_decide_div_mod_eq]
      have h2 : 2 ≤ 2 ^ (i - k) := by
        have : 2 ^ 1 ≤ 2 ^ (i - k) := Nat.pow_le_pow_right (by decide) (by omega)
        simpa using this
      have h3 : h / 2 ^ k % 2 < 2 ^ (i - k) := by omega
      rw [Nat.div_eq_of_lt h3]
      rfl
    · rw [decide_eq_false l, Bool.false_and]
theorem one_bit_ne (h k : Nat) : (((h &&& 2 ^ k : Nat) : Int) != 0) = decide (h / 2 ^ k % 2 = 1) := by
  have p : 0 < 2 ^ k := Nat.two_pow_pos k
  rw [one_bit]
  generalize 2 ^ k = q at p
  rcases Nat.mod_two_eq_zero_or_one (h / q) with e | e
  · simp [e]
  · simp [e]
    omega
theorem mask_ne (a : Nat) : (((a : Nat) : Int) != 0) = decide (a ≠ 0) := by
  by_cases e : a = 0
  · subst e; rfl
  · simp [e]
theorem names_at {L : List Str} {i : Nat} (h : i < L.length) : (L.map V.str)[i]? = some (.str (L.getD i "")) := by
  rw [List.getElem?_map, List.getElem?_eq_getElem h, List.getD_eq_getElem?_getD, List.getElem?_eq_getElem h]
  rfl
theorem six : (6 : Nat) ≤ sizeLine := by decide
section
variable {P : Program} {w : World} {K : PySem.W.Frag} {mg : Str → Option Value} {base : Heap}
theorem ins_mk {H : Hp} {p a : Addr} {b : Ab} {nm : Str} {d n m : V} {z : Int} {ops : List Str} {xs : List V} (hp : H p = some (.tup [.str nm, d, n, m, .int z, .ref a])) (ha : TupK K xs a) (ho : xs = ops.map V.str) (e : b = ⟨nm, d, n, m, .inl z, ops⟩) : InsAt K H p b := by
  subst e ho
  exact ⟨_, a, .of hp, ha.sq, rfl⟩
noncomputable def sp_dec (K : PySem.W.Frag) (pre : Nat → Prop) : Sp := fun vs H Q _ => ∃ h : Nat, vs = [vN h] ∧ h < 65536 ∧ pre h ∧ ∀ p H', Same H H' → (∀ nx, InsAt K H' p (abOf (Sd12.decode h nx))) → Q (.ref p) H'
theorem none_at {H : Hp} {a : Addr} (ha : ∃ e, TupK K [.str "none", .non, .non, .non, .int 0, .ref e] a ∧ TupK K [] e) : InsAt K H a abN := by
  obtain ⟨e, h1, h2⟩ := ha
  exact ⟨_, e, h1.sq, h2.sq, rfl⟩
theorem dec_len {vs : List V} {H : Hp} {Q : VK} {E : XK} {pre : Nat → Prop} (h : sp_dec K pre vs H Q E) : vs.length = 1 := by
  obtain ⟨h, rfl, _⟩ := h
  rfl
noncomputable def KD (K : PySem.W.Frag) (H : Hp) (h : Nat) (Q : VK) : Prop := ∀ p H', Same H H' → (∀ nx, InsAt K H' p (abOf (Sd12.decode h nx))) → Q (.ref p) H'
theorem dec_fn {x : Str} {st : Stmt} {N : List Str} {k : Nat} {pre : Nat → Prop} (D : Def K mg x st) (S : FnScope N ["half"] (defScope st))
    (hb : ∀ (kV doc pm : Value) (an : Option Addr) (cdv ct : Value) (us : List Value), us.length = (["half"] : List Str).length → bindArgs (PySem.W.fnOf x x (defArgs st) (defBody st) (defScope st) .none kV doc pm an cdv ct) ⟨us, []⟩ = pure ((["half"] : List Str).zip us))
    (body : ∀ (f : Addr) (cdv : Value) (A : Around) (outer : List Env) (s : Shared) (H : Hp) (h : Nat) (Q : VK) (E : XK), Room k (A.deeper (PyProof.Rows.envOfC x (defScope st) s.heap.objs.size f cdv)) → h < 65536 → pre h → KD K H h Q →
      ∃ t, PSs (cxOf CX0 P w K mg base N x (defScope st) f cdv A outer s H E).nox (defBody st) t ∧ t { nx := fun _ H' => Q .non H', rt := Q } (start N [vN h]) H) : Fn P w K mg base x (k + 1) ["half"] (sp_dec K pre) := by
  refine D.fn S hb (fun vs H Q E h => dec_len h) (fun f cdv A outer s H vs Q E hr h => ?_)
  obtain ⟨h, rfl, hh, hc, kk⟩ := h
  exact body f cdv A outer s H h Q E hr hh hc kk
section
variable {σ : L2.St} {H : Hp} {ta : TE} {x : Nat}
theorem i3 (ha : Is ta σ H (vN x)) : Is (tOp (rN fun a b => a &&& b) ta (tC (.int ((3 : Nat) : Int)))) σ H (vN (x % 4)) := is_eq (is_n ha is_c) (congrArg vN (m3 x))
theorem i7 (ha : Is ta σ H (vN x)) : Is (tOp (rN fun a b => a &&& b) ta (tC (.int ((7 : Nat) : Int)))) σ H (vN (x % 8)) := is_eq (is_n ha is_c) (congrArg vN (m7 x))
theorem i15 (ha : Is ta σ H (vN x)) : Is (tOp (rN fun a b => a &&& b) ta (tC (.int ((15 : Nat) : Int)))) σ H (vN (x % 16)) := is_eq (is_n ha is_c) (congrArg vN (m15 x))
theorem i31 (ha : Is ta σ H (vN x)) : Is (tOp (rN fun a b => a &&& b) ta (tC (.int ((31 : Nat) : Int)))) σ H (vN (x % 32)) := is_eq (is_n ha is_c) (congrArg vN (m31 x))
theorem i127 (ha : Is ta σ H (vN x)) : Is (tOp (rN fun a b => a &&& b) ta (tC (.int ((127 : Nat) : Int)))) σ H (vN (x % 128)) := is_eq (is_n ha is_c) (congrArg vN (m127 x))
theorem i255 (ha : Is ta σ H (vN x)) : Is (tOp (rN fun a b => a &&& b) ta (tC (.int ((255 : Nat) : Int)))) σ H (vN (x % 256)) := is_eq (is_n ha is_c) (congrArg vN (m255 x))
theorem ite_str {p : Prop} [Decidable p] (a b : Str) : (if p then V.str a else V.str b) = V.str (if p then a else b) := by split <;> rfl
theorem nm_at {L : List Str} {i : Nat} {xs : List V} (h : i < L.length) (e : xs = L.map V.str) : xs[i]? = some (.str (L.getD i "")) := e ▸ names_at h
theorem ret6 {h : Nat} {Q : VK} {t0 t1 t2 t3 t4 : TE} {nm : Str} {d n m : V} {z : Int} {xs : List V} (k : KD K H h Q) (h0 : Is t0 σ H (.str nm)) (h1 : Is t1 σ H d) (h2 : Is t2 σ H n) (h3 : Is t3 σ H m) (h4 : Is t4 σ H (.int z))
    (ops : List Str) (hx : xs = ops.map V.str) (e : ∀ nx, abOf (Sd12.decode h nx) = ⟨nm, d, n, m, .inl z, ops⟩) :
    tTup (tCons t0 (tCons t1 (tCons t2 (tCons t3 (tCons t4 (tCons (tGr (TupK K xs)) tNil)))))) σ H Q :=
  h0 _ (h1 _ (h2 _ (h3 _ (h4 _ fun a ha => ⟨six, fun p hp => k p _ (same_upd hp) fun nx => ins_mk upd_same ha hx (e nx)⟩))))
theorem ret_none {h : Nat} {Q : VK} (k : KD K H h Q) (e : ∀ nx, Sd12.decode h nx = none) : tGr (fun a => ∃ e, TupK K [.str "none", .non, .non, .non, .int 0, .ref e] a ∧ TupK K [] e) σ H Q :=
  fun a ha => k a _ (Same.refl _) fun nx => by
    rw [e nx]
    exact none_at ha
end
theorem fn_no_instruction (T : Txt K mg) : Fn P w K mg base "no_instruction" 1 ["half"] (sp_dec K fun h => ∀ nx, Sd12.decode h nx = none) := by
  refine dec_fn T.d_no_instruction sc_no_instruction (fun _ _ _ _ _ _ => ln1 (fun _ => rfl)) (fun f cdv A outer s H h Q E hr hh hc k => ?_)
  exact ⟨_, (@pss_one _ _ _ (@ps_ret _ _ _ _ (@pg_ref _ _ _ _ T.c_NONE (lk ok_no_instruction (i := 0) rfl) (nmk nms0 (i := 14) rfl).1))), ret_none k hc⟩
theorem shift_name {j : Nat} (h : j < 3) : shiftNames.getD j "" = "lsls" ↔ j = 0 := (by decide +kernel : ∀ t : _root_.Fin 3, shiftNames.getD t.1 "" = "lsls" ↔ t.1 = 0) ⟨j, h⟩
theorem fn_shift_by_number (T : Txt K mg) : Fn P w K mg base "shift_by_number" 1 ["half"] (sp_dec K fun h => h / 2048 < 3) := by
  refine dec_fn T.d_shift_by_number sc_shift_by_number (fun _ _ _ _ _ _ => ln1 (fun _ => rfl)) (fun f cdv A outer s H h Q E hr hh hc k => ?_)
  refine ⟨_, (@pss_cons _ _ _ _ _ (@ps_set _ _ 1 _ _ _ _ sc_shift_by_number.nd rfl (Or.inl (lk ok_shift_by_number (i := 1) rfl)) (@pe_op _ _ _ _ _ _ _ _ n_and (@pvx _ _ _ 0 (.inl (lk ok_shift_by_number (i := 0) rfl)) (nmk nms0 (i := 15) rfl) rfl) (@pn _ 7 _ _)) rfl (.inl rfl)) (@pss_cons _ _ _ _ _ (@ps_set _ _ 2 _ _ _ _ sc_shift_by_number.nd rfl (Or.inl (lk ok_shift_by_number (i := 2) rfl)) (@pe_op _ _ _ _ _ _ _ _ n_and (@pe_op _ _ _ _ _ _ _ _ n_shr (@pvx _ _ _ 0 (.inl (lk ok_shift_by_number (i := 0) rfl)) (nmk nms0 (i := 15) rfl) rfl) (@pn _ 3 _ _)) (@pn _ 7 _ _)) rfl (.inl rfl)) (@pss_cons _ _ _ _ _ (@ps_set _ _ 3 _ _ _ _ sc_shift_by_number.nd rfl (Or.inl (lk ok_shift_by_number (i := 3) rfl)) (@pe_op _ _ _ _ _ _ _ _ n_and (@pe_op _ _ _ _ _ _ _ _ n_shr (@pvx _ _ _ 0 (.inl (lk ok_shift_by_number (i := 0) rfl)) (nmk nms0 (i := 15) rfl) rfl) (@pn _ 6 _ _)) (@pn _ 31 _ _)) rfl (.inl rfl)) (@pss_cons _ _ _ _ _ (@ps_set _ _ 4 _ _ _ _ sc_shift_by_number.nd rfl (Or.inl (lk ok_shift_by_number (i := 5) rfl)) (@pe_ix _ _ _ _ _ _ _ ix_tup (@pg_ref _ _ _ _ T.c_SHIFTS (lk ok_shift_by_number (i := 4) rfl) (nmk nms0 (i := 16) rfl).1) (@pe_op _ _ _ _ _ _ _ _ n_shr (@pvx _ _ _ 0 (.inl (lk ok_shift_by_number (i := 0) rfl)) (nmk nms0 (i := 15) rfl) rfl) (@pn _ 11 _ _)) (fun _ _ => rfl)) rfl (.inl rfl)) (@pss_cons _ _ _ _ _ (@ps_if _ _ _ _ _ _ _ _ (@PW.pt _ _ _ (@pw_and _ _ _ _ _ _ _ (@pt_cmpR _ _ _ _ _ _ _ _ op_eq (@pvx _ _ _ 3 (.inl (lk ok_shift_by_number (i := 3) rfl)) (nmk nms0 (i := 17) rfl) rfl) (@pn _ 0 _ _) rfl) (@pw_and1 _ _ _ _ (@pt_cmpR _ _ _ _ _ _ _ _ op_eq (@pvx _ _ _ 4 (.inl (lk ok_shift_by_number (i := 5) rfl)) (nmk nms0 (i := 18) rfl) rfl) pe_str rfl)))) (@pss_one _ _ _ (@ps_ret _ _ _ _ (@pe_tup _ _ _ _ _ (@pa_cons _ _ _ _ _ pe_str (@pa_cons _ _ _ _ _ (@pvx _ _ _ 1 (.inl (lk ok_shift_by_number (i := 1) rfl)) (nmk nms0 (i := 19) rfl) rfl) (@pa_cons _ _ _ _ _ pe_non (@pa_cons _ _ _ _ _ (@pvx _ _ _ 2 (.inl (lk ok_shift_by_number (i := 2) rfl)) (nmk nms0 (i := 20) rfl) rfl) (@pa_cons _ _ _ _ _ (@pn _ 0 _ _) (@pa_cons _ _ _ _ _ (@pg_ref _ _ _ _ T.c_OF_TWO (lk ok_shift_by_number (i := 6) rfl) (nmk nms0 (i := 21) rfl).1) pa_nil rfl) rfl) rfl) rfl) rfl) rfl)))) pss_nil) (@pss_one _ _ _ (@ps_ret _ _ _ _ (@pe_tup _ _ _ _ _ (@pa_cons _ _ _ _ _ (@pvx _ _ _ 4 (.inl (lk ok_shift_by_number (i := 5) rfl)) (nmk nms0 (i := 18) rfl) rfl) (@pa_cons _ _ _ _ _ (@pvx _ _ _ 1 (.inl (lk ok_shift_by_number (i := 1) rfl)) (nmk nms0 (i := 19) rfl) rfl) (@pa_cons _ _ _ _ _ (@pvx _ _ _ 2 (.inl (lk ok_shift_by_number (i := 2) rfl)) (nmk nms0 (i := 20) rfl) rfl) (@pa_cons _ _ _ _ _ pe_non (@pa_cons _ _ _ _ _ (@pe_ifExp _ _ _ _ _ _ _ _ (@pt_cmpR _ _ _ _ _ _ _ _ op_eq (@pvx _ _ _ 3 (.inl (lk ok_shift_by_number (i := 3) rfl)) (nmk nms0 (i := 17) rfl) rfl) (@pn _ 0 _ _) rfl) (@pn _ 32 _ _) (@pvx _ _ _ 3 (.inl (lk ok_shift_by_number (i := 3) rfl)) (nmk nms0 (i := 17) rfl) rfl)) (@pa_cons _ _ _ _ _ (@pg_ref _ _ _ _ T.c_OF_THREE (lk ok_shift_by_number (i := 7) rfl) (nmk nms0 (i := 22) rfl).1) pa_nil rfl) rfl) rfl) rfl) rfl) rfl))))))))), ?_⟩
  refine i7 (is_var rfl) _ ?_
  refine i7 (is_n (is_var rfl) is_c) _ ?_
  refine i31 (is_n (is_var rfl) is_c) _ ?_
  refine is_ixG (j := h / 2048) (by exact is_n (is_var rfl) is_c) (nm_at (L := shiftNames) hc rfl) _ ?_
  refine ifs (b := decide (h / 64 % 32 = 0) && decide (h / 2048 = 0)) (p_and (pu_test (is_eqN (is_var rfl) is_c)) (pu_test (is_eqS (is_var rfl) is_c (shift_name hc)))) ?_
  refine ite2 (fun c => ?_) (fun c => ?_)
  · rw [Bool.and_eq_true, decide_eq_true_eq, decide_eq_true_eq] at c
    refine ret6 k is_c (is_var rfl) is_c (is_var rfl) is_c ["d", "second"] rfl fun nx => ?_
    rw [dec_shift hc]
    exact if_pos ⟨c.2, c.1⟩
  · rw [Bool.and_eq_true, decide_eq_true_eq, decide_eq_true_eq] at c
    refine ret6 k (is_var rfl) (is_var rfl) (is_var rfl) is_c (is_eq (is_ite (pu_test (is_eqN (is_var rfl) is_c)) is_c (is_var rfl)) (v' := .int ((if h / 64 % 32 = 0 then 32 else h / 64 % 32 : Nat) : Int)) ?_) ["d", "n", "second"] rfl fun nx => ?_
    · show (if h / 64 % 32 = 0 then vN 32 else vN (h / 64 % 32)) = _
      split <;> rfl
    · rw [dec_shift hc]
      exact if_neg fun z => c ⟨z.2, z.1⟩
theorem beq_if {x : Nat} : ((x == 1) = true) = (x = 1) := propext beq_iff_eq
theorem fn_sum_of_three (T : Txt K mg) : Fn P w K mg base "sum_of_three" 1 ["half"] (sp_dec K fun h => h / 2048 = 3) := by
  refine dec_fn T.d_sum_of_three sc_sum_of_three (fun _ _ _ _ _ _ => ln1 (fun _ => rfl)) (fun f cdv A outer s H h Q E hr hh hc k => ?_)
  refine ⟨_, (@pss_cons _ _ _ _ _ (@ps_set _ _ 1 _ _ _ _ sc_sum_of_three.nd rfl (Or.inl (lk ok_sum_of_three (i := 1) rfl)) (@pe_ifExp _ _ _ _ _ _ _ _ (@pt_truth _ _ _ (@pe_op _ _ _ _ _ _ _ _ n_and (@pvx _ _ _ 0 (.inl (lk ok_sum_of_three (i := 0) rfl)) (nmk nms0 (i := 15) rfl) rfl) (@pn _ 512 _ _)) (fun _ => rfl)) pe_str pe_str) rfl (.inl rfl)) (@pss_cons _ _ _ _ _ (@ps_set _ _ 2 _ _ _ _ sc_sum_of_three.nd rfl (Or.inl (lk ok_sum_of_three (i := 2) rfl)) (@pe_op _ _ _ _ _ _ _ _ n_and (@pvx _ _ _ 0 (.inl (lk ok_sum_of_three (i := 0) rfl)) (nmk nms0 (i := 15) rfl) rfl) (@pn _ 7 _ _)) rfl (.inl rfl)) (@pss_cons _ _ _ _ _ (@ps_set _ _ 3 _ _ _ _ sc_sum_of_three.nd rfl (Or.inl (lk ok_sum_of_three (i := 3) rfl)) (@pe_op _ _ _ _ _ _ _ _ n_and (@pe_op _ _ _ _ _ _ _ _ n_shr (@pvx _ _ _ 0 (.inl (lk ok_sum_of_three (i := 0) rfl)) (nmk nms0 (i := 15) rfl) rfl) (@pn _ 3 _ _)) (@pn _ 7 _ _)) rfl (.inl rfl)) (@pss_cons _ _ _ _ _ (@ps_set _ _ 4 _ _ _ _ sc_sum_of_three.nd rfl (Or.inl (lk ok_sum_of_three (i := 4) rfl)) (@pe_op _ _ _ _ _ _ _ _ n_and (@pe_op _ _ _ _ _ _ _ _ n_shr (@pvx _ _ _ 0 (.inl (lk ok_sum_of_three (i := 0) rfl)) (nmk nms0 (i := 15) rfl) rfl) (@pn _ 6 _ _)) (@pn _ 7 _ _)) rfl (.inl rfl)) (@pss_cons _ _ _ _ _ (@ps_if _ _ _ _ _ _ _ _ (@pt_truth _ _ _ (@pe_op _ _ _ _ _ _ _ _ n_and (@pvx _ _ _ 0 (.inl (lk ok_sum_of_three (i := 0) rfl)) (nmk nms0 (i := 15) rfl) rfl) (@pn _ 1024 _ _)) (fun _ => rfl)) (@pss_one _ _ _ (@ps_ret _ _ _ _ (@pe_tup _ _ _ _ _ (@pa_cons _ _ _ _ _ (@pvx _ _ _ 1 (.inl (lk ok_sum_of_three (i := 1) rfl)) (nmk nms0 (i := 18) rfl) rfl) (@pa_cons _ _ _ _ _ (@pvx _ _ _ 2 (.inl (lk ok_sum_of_three (i := 2) rfl)) (nmk nms0 (i := 19) rfl) rfl) (@pa_cons _ _ _ _ _ (@pvx _ _ _ 3 (.inl (lk ok_sum_of_three (i := 3) rfl)) (nmk nms0 (i := 23) rfl) rfl) (@pa_cons _ _ _ _ _ pe_non (@pa_cons _ _ _ _ _ (@pvx _ _ _ 4 (.inl (lk ok_sum_of_three (i := 4) rfl)) (nmk nms1 (i := 0) rfl) rfl) (@pa_cons _ _ _ _ _ (@pg_ref _ _ _ _ T.c_OF_THREE (lk ok_sum_of_three (i := 5) rfl) (nmk nms0 (i := 22) rfl).1) pa_nil rfl) rfl) rfl) rfl) rfl) rfl)))) pss_nil) (@pss_one _ _ _ (@ps_ret _ _ _ _ (@pe_tup _ _ _ _ _ (@pa_cons _ _ _ _ _ (@pvx _ _ _ 1 (.inl (lk ok_sum_of_three (i := 1) rfl)) (nmk nms0 (i := 18) rfl) rfl) (@pa_cons _ _ _ _ _ (@pvx _ _ _ 2 (.inl (lk ok_sum_of_three (i := 2) rfl)) (nmk nms0 (i := 19) rfl) rfl) (@pa_cons _ _ _ _ _ (@pvx _ _ _ 3 (.inl (lk ok_sum_of_three (i := 3) rfl)) (nmk nms0 (i := 23) rfl) rfl) (@pa_cons _ _ _ _ _ (@pvx _ _ _ 4 (.inl (lk ok_sum_of_three (i := 4) rfl)) (nmk nms1 (i := 0) rfl) rfl) (@pa_cons _ _ _ _ _ (@pn _ 0 _ _) (@pa_cons _ _ _ _ _ (@pg_ref _ _ _ _ T.c_OF_THREE (lk ok_sum_of_three (i := 5) rfl) (nmk nms0 (i := 22) rfl).1) pa_nil rfl) rfl) rfl) rfl) rfl) rfl))))))))), ?_⟩
  refine is_eq (is_ite (p := h / 512 % 2 = 1) (pu_tru (is_n (is_var rfl) is_c) (one_bit_ne h 9)) is_c is_c) (ite_str _ _) _ ?_
  refine i7 (is_var rfl) _ ?_
  refine i7 (is_n (is_var rfl) is_c) _ ?_
  refine i7 (is_n (is_var rfl) is_c) _ ?_
  refine ifsP (p := h / 1024 % 2 = 1) (pu_tru (is_n (is_var rfl) is_c) (one_bit_ne h 10)) (fun c => ?_) (fun c => ?_)
  · refine ret6 k (is_var rfl) (is_var rfl) (is_var rfl) is_c (is_var rfl) ["d", "n", "second"] rfl fun nx => ?_
    rw [dec_sum hc, if_pos c]
    show (⟨if (h / 512 % 2 == 1) = true then "subs" else "adds", _, _, _, _, _⟩ : Ab) = _
    simp only [beq_if]
  · refine ret6 k (is_var rfl) (is_var rfl) (is_var rfl) (is_var rfl) is_c ["d", "n", "second"] rfl fun nx => ?_
    rw [dec_sum hc, if_neg c]
    show (⟨if (h / 512 % 2 == 1) = true then "subs" else "adds", _, _, _, _, _⟩ : Ab) = _
    simp only [beq_if]
    rfl
theorem fn_with_byte (T : Txt K mg) : Fn P w K mg base "with_byte" 1 ["half"] (sp_dec K fun h => 4 ≤ h / 2048 ∧ h / 2048 < 8) := by
  refine dec_fn T.d_with_byte sc_with_byte (fun _ _ _ _ _ _ => ln1 (fun _ => rfl)) (fun f cdv A outer s H h Q E hr hh hc k => ?_)
  refine ⟨_, (@pss_cons _ _ _ _ _ (@ps_set _ _ 1 _ _ _ _ sc_with_byte.nd rfl (Or.inl (lk ok_with_byte (i := 1) rfl)) (@pe_op _ _ _ _ _ _ _ _ n_and (@pe_op _ _ _ _ _ _ _ _ n_shr (@pvx _ _ _ 0 (.inl (lk ok_with_byte (i := 0) rfl)) (nmk nms0 (i := 15) rfl) rfl) (@pn _ 8 _ _)) (@pn _ 7 _ _)) rfl (.inl rfl)) (@pss_one _ _ _ (@ps_ret _ _ _ _ (@pe_tup _ _ _ _ _ (@pa_cons _ _ _ _ _ (@pe_ix _ _ _ _ _ _ _ ix_tup (@pg_ref _ _ _ _ T.c_WITH_BYTE (lk ok_with_byte (i := 2) rfl) (nmk nms1 (i := 1) rfl).1) (@pe_op _ _ _ _ _ _ _ _ n_and (@pe_op _ _ _ _ _ _ _ _ n_shr (@pvx _ _ _ 0 (.inl (lk ok_with_byte (i := 0) rfl)) (nmk nms0 (i := 15) rfl) rfl) (@pn _ 11 _ _)) (@pn _ 3 _ _)) (fun _ _ => rfl)) (@pa_cons _ _ _ _ _ (@pvx _ _ _ 1 (.inl (lk ok_with_byte (i := 1) rfl)) (nmk nms0 (i := 19) rfl) rfl) (@pa_cons _ _ _ _ _ (@pvx _ _ _ 1 (.inl (lk ok_with_byte (i := 1) rfl)) (nmk nms0 (i := 19) rfl) rfl) (@pa_cons _ _ _ _ _ pe_non (@pa_cons _ _ _ _ _ (@pe_op _ _ _ _ _ _ _ _ n_and (@pvx _ _ _ 0 (.inl (lk ok_with_byte (i := 0) rfl)) (nmk nms0 (i := 15) rfl) rfl) (@pn _ 255 _ _)) (@pa_cons _ _ _ _ _ (@pg_ref _ _ _ _ T.c_OF_TWO (lk ok_with_byte (i := 3) rfl) (nmk nms0 (i := 21) rfl).1) pa_nil rfl) rfl) rfl) rfl) rfl) rfl))))), ?_⟩
  refine i7 (is_n (is_var rfl) is_c) _ ?_
  refine ret6 k (is_ixG (i3 (is_n (is_var rfl) is_c)) (nm_at (L := byteNames) (Nat.mod_lt _ (by decide)) rfl)) (is_var rfl) (is_var rfl) is_c (i255 (is_var rfl)) ["d", "second"] rfl fun nx => ?_
  rw [dec_byte hc.1 hc.2]
  rfl
theorem bN (x y : Nat) : V.bl (decide (V.int (x : Int) = V.int (y : Int))) = V.bl (decide (x = y)) := congrArg V.bl (decide_eq_decide.mpr (by rw [V.int.injEq]; omega))
theorem bLt (x y : Nat) : V.bl (decide ((x : Int) < (y : Int))) = V.bl (decide (x < y)) := congrArg V.bl (decide_eq_decide.mpr (by omega))
theorem bS {x y : Str} {p : Prop} [Decidable p] (e : x = y ↔ p) : V.bl (decide (V.str x = V.str y)) = V.bl (decide p) := congrArg V.bl (decide_eq_decide.mpr (by rw [V.str.injEq]; exact e))
end
end Chip

namespace Chip
open PySem L2 LX
section
variable {P : Program} {w : World} {K : PySem.W.Frag} {mg : Str → Option Value} {base : Heap}
theorem mask7_ne (h : Nat) : (((h &&& 7 : Nat) : Int) != 0) = decide (h % 8 ≠ 0) := by rw [mask_ne, m7]
theorem fn_branch_to_register (T : Txt K mg) : Fn P w K mg base "branch_to_register" 1 ["half"] (sp_dec K fun h => h / 1024 = 17 ∧ h / 256 % 4 = 3) := by
  refine dec_fn T.d_branch_to_register sc_branch_to_register (fun _ _ _ _ _ _ => ln1 (fun _ => rfl)) (fun f cdv A outer s H h Q E hr hh hc k => ?_)
  refine ⟨_, (@pss_cons _ _ _ _ _ (@ps_set _ _ 1 _ _ _ _ sc_branch_to_register.nd rfl (Or.inl (lk ok_branch_to_register (i := 1) rfl)) (@pe_op _ _ _ _ _ _ _ _ n_and (@pe_op _ _ _ _ _ _ _ _ n_shr (@pvx _ _ _ 0 (.inl (lk ok_branch_to_register (i := 0) rfl)) (nmk nms0 (i := 15) rfl) rfl) (@pn _ 3 _ _)) (@pn _ 15 _ _)) rfl (.inl rfl)) (@pss_cons _ _ _ _ _ (@ps_if _ _ _ _ _ _ _ _ (@PW.pt _ _ _ (@pw_or _ _ _ _ _ _ _ (@pt_truth _ _ _ (@pe_op _ _ _ _ _ _ _ _ n_and (@pvx _ _ _ 0 (.inl (lk ok_branch_to_register (i := 0) rfl)) (nmk nms0 (i := 15) rfl) rfl) (@pn _ 7 _ _)) (fun _ => rfl)) (@pw_or1 _ _ _ _ (@pt_cmpR _ _ _ _ _ _ _ _ op_eq (@pvx _ _ _ 1 (.inl (lk ok_branch_to_register (i := 1) rfl)) (nmk nms0 (i := 20) rfl) rfl) (@pg_int _ _ _ _ T.c_PC (lk ok_branch_to_register (i := 2) rfl) (nmk nms1 (i := 8) rfl).1) rfl)))) (@pss_one _ _ _ (@ps_ret _ _ _ _ (@pg_ref _ _ _ _ T.c_NONE (lk ok_branch_to_register (i := 3) rfl) (nmk nms0 (i := 14) rfl).1))) pss_nil) (@pss_one _ _ _ (@ps_ret _ _ _ _ (@pe_tup _ _ _ _ _ (@pa_cons _ _ _ _ _ (@pe_ifExp _ _ _ _ _ _ _ _ (@pt_truth _ _ _ (@pe_op _ _ _ _ _ _ _ _ n_and (@pvx _ _ _ 0 (.inl (lk ok_branch_to_register (i := 0) rfl)) (nmk nms0 (i := 15) rfl) rfl) (@pn _ 128 _ _)) (fun _ => rfl)) pe_str pe_str) (@pa_cons _ _ _ _ _ pe_non (@pa_cons _ _ _ _ _ pe_non (@pa_cons _ _ _ _ _ (@pvx _ _ _ 1 (.inl (lk ok_branch_to_register (i := 1) rfl)) (nmk nms0 (i := 20) rfl) rfl) (@pa_cons _ _ _ _ _ (@pn _ 0 _ _) (@pa_cons _ _ _ _ _ (@pg_ref _ _ _ _ T.c_OF_ONE (lk ok_branch_to_register (i := 4) rfl) (nmk nms1 (i := 9) rfl).1) pa_nil rfl) rfl) rfl) rfl) rfl) rfl)))))), ?_⟩
  refine i15 (is_n (is_var rfl) is_c) _ ?_
  refine ifs (b := decide (h % 8 ≠ 0) || decide (h / 8 % 16 = 15)) (p_or (pu_tru (is_n (is_var rfl) is_c) (mask7_ne h)) (pu_test (is_eqN (is_var rfl) is_c))) ?_
  refine ite2 (fun c => ?_) (fun c => ?_)
  · rw [Bool.or_eq_true, decide_eq_true_eq, decide_eq_true_eq] at c
    exact ret_none k fun nx => by rw [dec_high hc.1, if_pos hc.2, if_pos c]
  · rw [Bool.or_eq_true, decide_eq_true_eq, decide_eq_true_eq] at c
    refine ret6 k (is_eq (is_ite (p := h / 128 % 2 = 1) (pu_tru (is_n (is_var rfl) is_c) (one_bit_ne h 7)) is_c is_c) (ite_str _ _)) is_c is_c (is_var rfl) is_c ["second"] rfl fun nx => ?_
    rw [dec_high hc.1, if_pos hc.2, if_neg c]
    show (⟨if (h / 128 % 2 == 1) = true then "blx" else "bx", _, _, _, _, _⟩ : Ab) = _
    simp only [beq_if]
    rfl
theorem or_high (h : Nat) : (h / 16 &&& 8) ||| (h &&& 7) = h % 8 + 8 * (h / 128 % 2) := by
  have e : h / 16 &&& 8 = h / 16 / 8 % 2 * 8 := one_bit (h / 16) 3
  rw [e, m7, Nat.mul_comm, ← Nat.two_pow_add_eq_or_of_lt (i := 3) (Nat.mod_lt _ (by decide)), Nat.div_div_eq_div_mul, Nat.add_comm]
theorem ihigh {σ : L2.St} {H : Hp} {ta : TE} {x : Nat} (ha : Is ta σ H (vN x)) :
    Is (tOp (rN fun a b => a ||| b) (tOp (rN fun a b => a &&& b) (tOp (rN fun a b => a / 2 ^ b) ta (tC (.int ((4 : Nat) : Int)))) (tC (.int ((8 : Nat) : Int)))) (tOp (rN fun a b => a &&& b) ta (tC (.int ((7 : Nat) : Int))))) σ H (vN (x % 8 + 8 * (x / 128 % 2))) :=
  is_eq (is_n (is_n (is_n ha is_c) is_c) (is_n ha is_c)) (congrArg vN (or_high x))
theorem high_name {j : Nat} (h : j < 3) : (highNames.getD j "" = "add" ↔ j = 0) ∧ (highNames.getD j "" = "cmp" ↔ j = 1) := (by decide +kernel : ∀ t : _root_.Fin 3, (highNames.getD t.1 "" = "add" ↔ t.1 = 0) ∧ (highNames.getD t.1 "" = "cmp" ↔ t.1 = 1)) ⟨j, h⟩
theorem fn_with_high_registers (T : Txt K mg) : Fn P w K mg base "with_high_registers" 2 ["half"] (sp_dec K fun h => h / 1024 = 17) := by
  have G_branch_to_register := fn_branch_to_register (P := P) (w := w) (base := base) T
  refine dec_fn T.d_with_high_registers sc_with_high_registers (fun _ _ _ _ _ _ => ln1 (fun _ => rfl)) (fun f cdv A outer s H h Q E hr hh hc k => ?_)
  refine ⟨_, (@pss_cons _ _ _ _ _ (@ps_set _ _ 1 _ _ _ _ sc_with_high_registers.nd rfl (Or.inl (lk ok_with_high_registers (i := 1) rfl)) (@pe_op _ _ _ _ _ _ _ _ n_and (@pe_op _ _ _ _ _ _ _ _ n_shr (@pvx _ _ _ 0 (.inl (lk ok_with_high_registers (i := 0) rfl)) (nmk nms0 (i := 15) rfl) rfl) (@pn _ 8 _ _)) (@pn _ 3 _ _)) rfl (.inl rfl)) (@pss_cons _ _ _ _ _ (@ps_if _ _ _ _ _ _ _ _ (@pt_cmpR _ _ _ _ _ _ _ _ op_eq (@pvx _ _ _ 1 (.inl (lk ok_with_high_registers (i := 1) rfl)) (nmk nms1 (i := 5) rfl) rfl) (@pn _ 3 _ _) rfl) (@pss_one _ _ _ (@ps_ret _ _ _ _ (@pe_fn _ _ _ _ _ _ _ _ _ _ G_branch_to_register (hr.mono (by decide)) (lk ok_with_high_registers (i := 2) rfl) (@pa_cons _ _ _ _ _ (@pvx _ _ _ 0 (.inl (lk ok_with_high_registers (i := 0) rfl)) (nmk nms0 (i := 15) rfl) rfl) pa_nil rfl) (nmk nms1 (i := 6) rfl).1 rfl rfl))) pss_nil) (@pss_cons _ _ _ _ _ (@ps_set _ _ 2 _ _ _ _ sc_with_high_registers.nd rfl (Or.inl (lk ok_with_high_registers (i := 3) rfl)) (@pe_op _ _ _ _ _ _ _ _ n_or (@pe_op _ _ _ _ _ _ _ _ n_and (@pe_op _ _ _ _ _ _ _ _ n_shr (@pvx _ _ _ 0 (.inl (lk ok_with_high_registers (i := 0) rfl)) (nmk nms0 (i := 15) rfl) rfl) (@pn _ 4 _ _)) (@pn _ 8 _ _)) (@pe_op _ _ _ _ _ _ _ _ n_and (@pvx _ _ _ 0 (.inl (lk ok_with_high_registers (i := 0) rfl)) (nmk nms0 (i := 15) rfl) rfl) (@pn _ 7 _ _))) rfl (.inl rfl)) (@pss_cons _ _ _ _ _ (@ps_set _ _ 3 _ _ _ _ sc_with_high_registers.nd rfl (Or.inl (lk ok_with_high_registers (i := 4) rfl)) (@pe_op _ _ _ _ _ _ _ _ n_and (@pe_op _ _ _ _ _ _ _ _ n_shr (@pvx _ _ _ 0 (.inl (lk ok_with_high_registers (i := 0) rfl)) (nmk nms0 (i := 15) rfl) rfl) (@pn _ 3 _ _)) (@pn _ 15 _ _)) rfl (.inl rfl)) (@pss_cons _ _ _ _ _ (@ps_set _ _ 4 _ _ _ _ sc_with_high_registers.nd rfl (Or.inl (lk ok_with_high_registers (i := 6) rfl)) (@pe_ix _ _ _ _ _ _ _ ix_tup (@pg_ref _ _ _ _ T.c_TWO_HIGH (lk ok_with_high_registers (i := 5) rfl) (nmk nms1 (i := 7) rfl).1) (@pvx _ _ _ 1 (.inl (lk ok_with_high_registers (i := 1) rfl)) (nmk nms1 (i := 5) rfl) rfl) (fun _ _ => rfl)) rfl (.inl rfl)) (@pss_cons _ _ _ _ _ (@ps_if _ _ _ _ _ _ _ _ (@PW.pt _ _ _ (@pw_and _ _ _ _ _ _ _ (@pt_cmpR _ _ _ _ _ _ _ _ op_eq (@pvx _ _ _ 4 (.inl (lk ok_with_high_registers (i := 6) rfl)) (nmk nms0 (i := 18) rfl) rfl) pe_str rfl) (@pw_and _ _ _ _ _ _ _ (@pt_cmpR _ _ _ _ _ _ _ _ op_eq (@pvx _ _ _ 2 (.inl (lk ok_with_high_registers (i := 3) rfl)) (nmk nms0 (i := 19) rfl) rfl) (@pg_int _ _ _ _ T.c_PC (lk ok_with_high_registers (i := 7) rfl) (nmk nms1 (i := 8) rfl).1) rfl) (@pw_and1 _ _ _ _ (@pt_cmpR _ _ _ _ _ _ _ _ op_eq (@pvx _ _ _ 3 (.inl (lk ok_with_high_registers (i := 4) rfl)) (nmk nms0 (i := 20) rfl) rfl) (@pg_int _ _ _ _ T.c_PC (lk ok_with_high_registers (i := 7) rfl) (nmk nms1 (i := 8) rfl).1) rfl))))) (@pss_one _ _ _ (@ps_ret _ _ _ _ (@pg_ref _ _ _ _ T.c_NONE (lk ok_with_high_registers (i := 8) rfl) (nmk nms0 (i := 14) rfl).1))) pss_nil) (@pss_cons _ _ _ _ _ (@ps_if _ _ _ _ _ _ _ _ (@PW.pt _ _ _ (@pw_and _ _ _ _ _ _ _ (@pt_cmpR _ _ _ _ _ _ _ _ op_eq (@pvx _ _ _ 4 (.inl (lk ok_with_high_registers (i := 6) rfl)) (nmk nms0 (i := 18) rfl) rfl) pe_str rfl) (@pw_and1 _ _ _ _ (@PW.pt _ _ _ (@pw_or _ _ _ _ _ _ _ (@pt_cmpR _ _ _ _ _ _ _ _ op_eq (@pvx _ _ _ 2 (.inl (lk ok_with_high_registers (i := 3) rfl)) (nmk nms0 (i := 19) rfl) rfl) (@pg_int _ _ _ _ T.c_PC (lk ok_with_high_registers (i := 7) rfl) (nmk nms1 (i := 8) rfl).1) rfl) (@pw_or _ _ _ _ _ _ _ (@pt_cmpR _ _ _ _ _ _ _ _ op_eq (@pvx _ _ _ 3 (.inl (lk ok_with_high_registers (i := 4) rfl)) (nmk nms0 (i := 20) rfl) rfl) (@pg_int _ _ _ _ T.c_PC (lk ok_with_high_registers (i := 7) rfl) (nmk nms1 (i := 8) rfl).1) rfl) (@pw_or1 _ _ _ _ (@PW.pt _ _ _ (@pw_and _ _ _ _ _ _ _ (@pt_cmpR _ _ _ _ _ _ _ _ op_lt (@pvx _ _ _ 2 (.inl (lk ok_with_high_registers (i := 3) rfl)) (nmk nms0 (i := 19) rfl) rfl) (@pn _ 8 _ _) rfl) (@pw_and1 _ _ _ _ (@pt_cmpR _ _ _ _ _ _ _ _ op_lt (@pvx _ _ _ 3 (.inl (lk ok_with_high_registers (i := 4) rfl)) (nmk nms0 (i := 20) rfl) rfl) (@pn _ 8 _ _) rfl))))))))))) (@pss_one _ _ _ (@ps_ret _ _ _ _ (@pg_ref _ _ _ _ T.c_NONE (lk ok_with_high_registers (i := 8) rfl) (nmk nms0 (i := 14) rfl).1))) pss_nil) (@pss_one _ _ _ (@ps_ret _ _ _ _ (@pe_tup _ _ _ _ _ (@pa_cons _ _ _ _ _ (@pvx _ _ _ 4 (.inl (lk ok_with_high_registers (i := 6) rfl)) (nmk nms0 (i := 18) rfl) rfl) (@pa_cons _ _ _ _ _ (@pvx _ _ _ 2 (.inl (lk ok_with_high_registers (i := 3) rfl)) (nmk nms0 (i := 19) rfl) rfl) (@pa_cons _ _ _ _ _ (@pvx _ _ _ 2 (.inl (lk ok_with_high_registers (i := 3) rfl)) (nmk nms0 (i := 19) rfl) rfl) (@pa_cons _ _ _ _ _ (@pvx _ _ _ 3 (.inl (lk ok_with_high_registers (i := 4) rfl)) (nmk nms0 (i := 20) rfl) rfl) (@pa_cons _ _ _ _ _ (@pn _ 0 _ _) (@pa_cons _ _ _ _ _ (@pg_ref _ _ _ _ T.c_OF_TWO (lk ok_with_high_registers (i := 9) rfl) (nmk nms0 (i := 21) rfl).1) pa_nil rfl) rfl) rfl) rfl) rfl) rfl))))))))))), ?_⟩
  refine i3 (is_n (is_var rfl) is_c) _ ?_
  refine ifsP (p := h / 256 % 4 = 3) (pu_test (is_eqN (is_var rfl) is_c)) (fun c1 => ?_) (fun c1 => ?_)
  · exact do_fn (isa_cons (is_var rfl) isa_nil) ⟨h, rfl, hh, ⟨hc, c1⟩, k⟩
  have l3 : h / 256 % 4 < 3 := Nat.lt_of_le_of_ne (Nat.le_of_lt_succ (Nat.mod_lt _ (by decide))) c1
  have nm := high_name l3
  refine ihigh (is_var rfl) _ ?_
  refine i15 (is_n (is_var rfl) is_c) _ ?_
  refine is_ixG (j := h / 256 % 4) (by exact is_var rfl) (nm_at (L := highNames) l3 rfl) _ ?_
  refine ifs (b := decide (h / 256 % 4 = 0) && (decide (h % 8 + 8 * (h / 128 % 2) = 15) && decide (h / 8 % 16 = 15))) (p_and (pu_test (is_eqS (is_var rfl) is_c nm.1)) (p_and (pu_test (is_eqN (is_var rfl) is_c)) (pu_test (is_eqN (is_var rfl) is_c)))) ?_
  refine ite2 (fun c2 => ?_) (fun c2 => ?_)
  · simp only [Bool.and_eq_true, decide_eq_true_eq] at c2
    exact ret_none k fun nx => by rw [dec_high hc, if_neg c1, if_neg (fun z => absurd (c2.1.symm.trans z.1) (by decide)), if_pos c2]
  simp only [Bool.and_eq_true, decide_eq_true_eq] at c2
  refine ifs (b := decide (h / 256 % 4 = 1) && (decide (h % 8 + 8 * (h / 128 % 2) = 15) || (decide (h / 8 % 16 = 15) || (decide (h % 8 + 8 * (h / 128 % 2) < 8) && decide (h / 8 % 16 < 8)))))
    (p_and (pu_test (is_eqS (is_var rfl) is_c nm.2)) (p_or (pu_test (is_eqN (is_var rfl) is_c)) (p_or (pu_test (is_eqN (is_var rfl) is_c)) (p_and (pu_test (is_ltN (is_var rfl) is_c)) (pu_test (is_ltN (is_var rfl) is_c)))))) ?_
  refine ite2 (fun c3 => ?_) (fun c3 => ?_)
  · simp only [Bool.and_eq_true, Bool.or_eq_true, decide_eq_true_eq] at c3
    exact ret_none k fun nx => by rw [dec_high hc, if_neg c1, if_pos ⟨c3.1, c3.2.elim (fun z => .inr (.inl z)) fun z => z.elim (fun z => .inr (.inr z)) .inl⟩]
  · simp only [Bool.and_eq_true, Bool.or_eq_true, decide_eq_true_eq] at c3
    refine ret6 k (is_var rfl) (is_var rfl) (is_var rfl) (is_var rfl) is_c ["d", "second"] rfl fun nx => ?_
    rw [dec_high hc, if_neg c1, if_neg (fun z => c3 ⟨z.1, z.2.elim (fun q => .inr (.inr q)) fun q => q.elim .inl fun q => .inr (.inl q)⟩), if_neg c2]
    rfl
theorem ret6i {σ : L2.St} {H : Hp} {h : Nat} {Q : VK} {t0 t1 t2 t3 t4 : TE} {c : TT} {p : Prop} [Decidable p] {nm : Str} {d n m : V} {z : Int} {xs ys : List V} (k : KD K H h Q) (h0 : Is t0 σ H (.str nm)) (h1 : Is t1 σ H d) (h2 : Is t2 σ H n) (h3 : Is t3 σ H m) (h4 : Is t4 σ H (.int z)) (hc : Pure c σ H (decide p))
    (ops ops' : List Str) (hx : xs = ops.map V.str) (hy : ys = ops'.map V.str) (e : ∀ nx, abOf (Sd12.decode h nx) = ⟨nm, d, n, m, .inl z, if p then ops else ops'⟩) :
    tTup (tCons t0 (tCons t1 (tCons t2 (tCons t3 (tCons t4 (tCons (tIf c (tGr (TupK K xs)) (tGr (TupK K ys))) tNil)))))) σ H Q := by
  refine h0 _ (h1 _ (h2 _ (h3 _ (h4 _ (hc _ ?_)))))
  by_cases q : p
  · rw [if_pos q] at e
    rw [decide_eq_true q]
    exact iteT fun a ha => ⟨six, fun p hp => k p _ (same_upd hp) fun nx => ins_mk upd_same ha hx (e nx)⟩
  · rw [if_neg q] at e
    rw [decide_eq_false q]
    exact iteF fun a ha => ⟨six, fun p hp => k p _ (same_upd hp) fun nx => ins_mk upd_same ha hy (e nx)⟩
theorem low_name {j : Nat} (h : j < 16) : lowNames.getD j "" = "rsbs" ↔ j = 9 := (by decide +kernel : ∀ j : _root_.Fin 16, lowNames.getD j.1 "" = "rsbs" ↔ j.1 = 9) ⟨j, h⟩
theorem tenth {h : Nat} (hc : h / 2048 = 8) : (h / 1024 % 2 = 1 → h / 1024 = 17) ∧ (¬ h / 1024 % 2 = 1 → h / 1024 = 16) := by
  rw [← u2] at hc
  generalize h / 1024 = u at hc
  omega
theorem fn_with_registers (T : Txt K mg) : Fn P w K mg base "with_registers" 3 ["half"] (sp_dec K fun h => h / 2048 = 8) := by
  have G_with_high_registers := fn_with_high_registers (P := P) (w := w) (base := base) T
  refine dec_fn T.d_with_registers sc_with_registers (fun _ _ _ _ _ _ => ln1 (fun _ => rfl)) (fun f cdv A outer s H h Q E hr hh hc k => ?_)
  refine ⟨_, (@pss_cons _ _ _ _ _ (@ps_if _ _ _ _ _ _ _ _ (@pt_truth _ _ _ (@pe_op _ _ _ _ _ _ _ _ n_and (@pvx _ _ _ 0 (.inl (lk ok_with_registers (i := 0) rfl)) (nmk nms0 (i := 15) rfl) rfl) (@pn _ 1024 _ _)) (fun _ => rfl)) (@pss_one _ _ _ (@ps_ret _ _ _ _ (@pe_fn _ _ _ _ _ _ _ _ _ _ G_with_high_registers (hr.mono (by decide)) (lk ok_with_registers (i := 1) rfl) (@pa_cons _ _ _ _ _ (@pvx _ _ _ 0 (.inl (lk ok_with_registers (i := 0) rfl)) (nmk nms0 (i := 15) rfl) rfl) pa_nil rfl) (nmk nms1 (i := 2) rfl).1 rfl rfl))) pss_nil) (@pss_cons _ _ _ _ _ (@ps_set _ _ 1 _ _ _ _ sc_with_registers.nd rfl (Or.inl (lk ok_with_registers (i := 2) rfl)) (@pe_op _ _ _ _ _ _ _ _ n_and (@pvx _ _ _ 0 (.inl (lk ok_with_registers (i := 0) rfl)) (nmk nms0 (i := 15) rfl) rfl) (@pn _ 7 _ _)) rfl (.inl rfl)) (@pss_cons _ _ _ _ _ (@ps_set _ _ 2 _ _ _ _ sc_with_registers.nd rfl (Or.inl (lk ok_with_registers (i := 4) rfl)) (@pe_ix _ _ _ _ _ _ _ ix_tup (@pg_ref _ _ _ _ T.c_TWO_LOW (lk ok_with_registers (i := 3) rfl) (nmk nms1 (i := 3) rfl).1) (@pe_op _ _ _ _ _ _ _ _ n_and (@pe_op _ _ _ _ _ _ _ _ n_shr (@pvx _ _ _ 0 (.inl (lk ok_with_registers (i := 0) rfl)) (nmk nms0 (i := 15) rfl) rfl) (@pn _ 6 _ _)) (@pn _ 15 _ _)) (fun _ _ => rfl)) rfl (.inl rfl)) (@pss_one _ _ _ (@ps_ret _ _ _ _ (@pe_tup _ _ _ _ _ (@pa_cons _ _ _ _ _ (@pvx _ _ _ 2 (.inl (lk ok_with_registers (i := 4) rfl)) (nmk nms0 (i := 18) rfl) rfl) (@pa_cons _ _ _ _ _ (@pvx _ _ _ 1 (.inl (lk ok_with_registers (i := 2) rfl)) (nmk nms0 (i := 19) rfl) rfl) (@pa_cons _ _ _ _ _ (@pvx _ _ _ 1 (.inl (lk ok_with_registers (i := 2) rfl)) (nmk nms0 (i := 19) rfl) rfl) (@pa_cons _ _ _ _ _ (@pe_op _ _ _ _ _ _ _ _ n_and (@pe_op _ _ _ _ _ _ _ _ n_shr (@pvx _ _ _ 0 (.inl (lk ok_with_registers (i := 0) rfl)) (nmk nms0 (i := 15) rfl) rfl) (@pn _ 3 _ _)) (@pn _ 7 _ _)) (@pa_cons _ _ _ _ _ (@pn _ 0 _ _) (@pa_cons _ _ _ _ _ (@pe_ifExp _ _ _ _ _ _ _ _ (@pt_cmpR _ _ _ _ _ _ _ _ op_eq (@pvx _ _ _ 2 (.inl (lk ok_with_registers (i := 4) rfl)) (nmk nms0 (i := 18) rfl) rfl) pe_str rfl) (@pg_ref _ _ _ _ T.c_OF_TWO_AND_ZERO (lk ok_with_registers (i := 5) rfl) (nmk nms1 (i := 4) rfl).1) (@pg_ref _ _ _ _ T.c_OF_TWO (lk ok_with_registers (i := 6) rfl) (nmk nms0 (i := 21) rfl).1)) pa_nil rfl) rfl) rfl) rfl) rfl) rfl))))))), ?_⟩
  refine ifsP (p := h / 1024 % 2 = 1) (pu_tru (is_n (is_var rfl) is_c) (one_bit_ne h 10)) (fun c1 => ?_) (fun c1 => ?_)
  · exact do_fn (isa_cons (is_var rfl) isa_nil) ⟨h, rfl, hh, (tenth hc).1 c1, k⟩
  have c1 := (tenth hc).2 c1
  have l16 : h / 64 % 16 < 16 := Nat.mod_lt _ (by decide)
  refine i7 (is_var rfl) _ ?_
  refine is_ixG (j := h / 64 % 16) (by exact i15 (is_n (is_var rfl) is_c)) (nm_at (L := lowNames) l16 rfl) _ ?_
  refine ret6i (p := h / 64 % 16 = 9) k (is_var rfl) (is_var rfl) (is_var rfl) (i7 (is_n (is_var rfl) is_c)) is_c (pu_test (is_eqS (is_var rfl) is_c (low_name l16))) ["d", "second", "zero"] ["d", "second"] rfl rfl fun nx => ?_
  rw [dec_alu c1]
  rfl
theorem m4 : (4 : Nat) < 2 ^ 64 := by decide
theorem fn_load_from_program (T : Txt K mg) : Fn P w K mg base "load_from_program" 1 ["half"] (sp_dec K fun h => h / 2048 = 9) := by
  refine dec_fn T.d_load_from_program sc_load_from_program (fun _ _ _ _ _ _ => ln1 (fun _ => rfl)) (fun f cdv A outer s H h Q E hr hh hc k => ?_)
  refine ⟨_, (@pss_one _ _ _ (@ps_ret _ _ _ _ (@pe_tup _ _ _ _ _ (@pa_cons _ _ _ _ _ pe_str (@pa_cons _ _ _ _ _ (@pe_op _ _ _ _ _ _ _ _ n_and (@pe_op _ _ _ _ _ _ _ _ n_shr (@pvx _ _ _ 0 (.inl (lk ok_load_from_program (i := 0) rfl)) (nmk nms0 (i := 15) rfl) rfl) (@pn _ 8 _ _)) (@pn _ 7 _ _)) (@pa_cons _ _ _ _ _ (@pg_int _ _ _ _ T.c_PC (lk ok_load_from_program (i := 1) rfl) (nmk nms1 (i := 8) rfl).1) (@pa_cons _ _ _ _ _ pe_non (@pa_cons _ _ _ _ _ (@pe_op _ _ _ _ _ _ _ _ n_mul (@pn _ 4 _ _) (@pe_op _ _ _ _ _ _ _ _ n_and (@pvx _ _ _ 0 (.inl (lk ok_load_from_program (i := 0) rfl)) (nmk nms0 (i := 15) rfl) rfl) (@pn _ 255 _ _))) (@pa_cons _ _ _ _ _ (@pg_ref _ _ _ _ T.c_WITH_PLACE (lk ok_load_from_program (i := 2) rfl) (nmk nms1 (i := 10) rfl).1) pa_nil rfl) rfl) rfl) rfl) rfl) rfl)))), ?_⟩
  refine ret6 k is_c (i7 (is_n (is_var rfl) is_c)) is_c is_c (is_nc is_c (i255 (is_var rfl)) m4) ["d", "place"] rfl fun nx => ?_
  rw [dec_lit hc]
  rfl
theorem fn_place_in_program (T : Txt K mg) : Fn P w K mg base "place_in_program" 1 ["half"] (sp_dec K fun h => h / 2048 = 20) := by
  refine dec_fn T.d_place_in_program sc_place_in_program (fun _ _ _ _ _ _ => ln1 (fun _ => rfl)) (fun f cdv A outer s H h Q E hr hh hc k => ?_)
  refine ⟨_, (@pss_one _ _ _ (@ps_ret _ _ _ _ (@pe_tup _ _ _ _ _ (@pa_cons _ _ _ _ _ pe_str (@pa_cons _ _ _ _ _ (@pe_op _ _ _ _ _ _ _ _ n_and (@pe_op _ _ _ _ _ _ _ _ n_shr (@pvx _ _ _ 0 (.inl (lk ok_place_in_program (i := 0) rfl)) (nmk nms0 (i := 15) rfl) rfl) (@pn _ 8 _ _)) (@pn _ 7 _ _)) (@pa_cons _ _ _ _ _ (@pg_int _ _ _ _ T.c_PC (lk ok_place_in_program (i := 1) rfl) (nmk nms1 (i := 8) rfl).1) (@pa_cons _ _ _ _ _ pe_non (@pa_cons _ _ _ _ _ (@pe_op _ _ _ _ _ _ _ _ n_mul (@pn _ 4 _ _) (@pe_op _ _ _ _ _ _ _ _ n_and (@pvx _ _ _ 0 (.inl (lk ok_place_in_program (i := 0) rfl)) (nmk nms0 (i := 15) rfl) rfl) (@pn _ 255 _ _))) (@pa_cons _ _ _ _ _ (@pg_ref _ _ _ _ T.c_OF_THREE (lk ok_place_in_program (i := 2) rfl) (nmk nms0 (i := 22) rfl).1) pa_nil rfl) rfl) rfl) rfl) rfl) rfl)))), ?_⟩
  refine ret6 k is_c (i7 (is_n (is_var rfl) is_c)) is_c is_c (is_nc is_c (i255 (is_var rfl)) m4) ["d", "n", "second"] rfl fun nx => ?_
  rw [dec_adr (by rw [hc]; decide) (by rw [hc]; decide), hc]
  rfl
theorem fn_place_on_stack (T : Txt K mg) : Fn P w K mg base "place_on_stack" 1 ["half"] (sp_dec K fun h => h / 2048 = 21) := by
  refine dec_fn T.d_place_on_stack sc_place_on_stack (fun _ _ _ _ _ _ => ln1 (fun _ => rfl)) (fun f cdv A outer s H h Q E hr hh hc k => ?_)
  refine ⟨_, (@pss_one _ _ _ (@ps_ret _ _ _ _ (@pe_tup _ _ _ _ _ (@pa_cons _ _ _ _ _ pe_str (@pa_cons _ _ _ _ _ (@pe_op _ _ _ _ _ _ _ _ n_and (@pe_op _ _ _ _ _ _ _ _ n_shr (@pvx _ _ _ 0 (.inl (lk ok_place_on_stack (i := 0) rfl)) (nmk nms0 (i := 15) rfl) rfl) (@pn _ 8 _ _)) (@pn _ 7 _ _)) (@pa_cons _ _ _ _ _ (@pg_int _ _ _ _ T.c_SP (lk ok_place_on_stack (i := 1) rfl) (nmk nms1 (i := 14) rfl).1) (@pa_cons _ _ _ _ _ pe_non (@pa_cons _ _ _ _ _ (@pe_op _ _ _ _ _ _ _ _ n_mul (@pn _ 4 _ _) (@pe_op _ _ _ _ _ _ _ _ n_and (@pvx _ _ _ 0 (.inl (lk ok_place_on_stack (i := 0) rfl)) (nmk nms0 (i := 15) rfl) rfl) (@pn _ 255 _ _))) (@pa_cons _ _ _ _ _ (@pg_ref _ _ _ _ T.c_OF_THREE (lk ok_place_on_stack (i := 2) rfl) (nmk nms0 (i := 22) rfl).1) pa_nil rfl) rfl) rfl) rfl) rfl) rfl)))), ?_⟩
  refine ret6 k is_c (i7 (is_n (is_var rfl) is_c)) is_c is_c (is_nc is_c (i255 (is_var rfl)) m4) ["d", "n", "second"] rfl fun nx => ?_
  rw [dec_adr (by rw [hc]; decide) (by rw [hc]; decide), hc]
  rfl
theorem fn_move_by_register (T : Txt K mg) : Fn P w K mg base "move_by_register" 1 ["half"] (sp_dec K fun h => 10 ≤ h / 2048 ∧ h / 2048 < 12) := by
  refine dec_fn T.d_move_by_register sc_move_by_register (fun _ _ _ _ _ _ => ln1 (fun _ => rfl)) (fun f cdv A outer s H h Q E hr hh hc k => ?_)
  refine ⟨_, (@pss_one _ _ _ (@ps_ret _ _ _ _ (@pe_tup _ _ _ _ _ (@pa_cons _ _ _ _ _ (@pe_ix _ _ _ _ _ _ _ ix_tup (@pg_ref _ _ _ _ T.c_BY_REGISTER (lk ok_move_by_register (i := 0) rfl) (nmk nms1 (i := 11) rfl).1) (@pe_op _ _ _ _ _ _ _ _ n_and (@pe_op _ _ _ _ _ _ _ _ n_shr (@pvx _ _ _ 0 (.inl (lk ok_move_by_register (i := 1) rfl)) (nmk nms0 (i := 15) rfl) rfl) (@pn _ 9 _ _)) (@pn _ 7 _ _)) (fun _ _ => rfl)) (@pa_cons _ _ _ _ _ (@pe_op _ _ _ _ _ _ _ _ n_and (@pvx _ _ _ 0 (.inl (lk ok_move_by_register (i := 1) rfl)) (nmk nms0 (i := 15) rfl) rfl) (@pn _ 7 _ _)) (@pa_cons _ _ _ _ _ (@pe_op _ _ _ _ _ _ _ _ n_and (@pe_op _ _ _ _ _ _ _ _ n_shr (@pvx _ _ _ 0 (.inl (lk ok_move_by_register (i := 1) rfl)) (nmk nms0 (i := 15) rfl) rfl) (@pn _ 3 _ _)) (@pn _ 7 _ _)) (@pa_cons _ _ _ _ _ (@pe_op _ _ _ _ _ _ _ _ n_and (@pe_op _ _ _ _ _ _ _ _ n_shr (@pvx _ _ _ 0 (.inl (lk ok_move_by_register (i := 1) rfl)) (nmk nms0 (i := 15) rfl) rfl) (@pn _ 6 _ _)) (@pn _ 7 _ _)) (@pa_cons _ _ _ _ _ (@pn _ 0 _ _) (@pa_cons _ _ _ _ _ (@pg_ref _ _ _ _ T.c_WITH_PLACE (lk ok_move_by_register (i := 2) rfl) (nmk nms1 (i := 10) rfl).1) pa_nil rfl) rfl) rfl) rfl) rfl) rfl)))), ?_⟩
  refine ret6 k (is_ixG (i7 (is_n (is_var rfl) is_c)) (nm_at (L := memNames) (Nat.mod_lt _ (by decide)) rfl)) (i7 (is_var rfl)) (i7 (is_n (is_var rfl) is_c)) (i7 (is_n (is_var rfl) is_c)) is_c ["d", "place"] rfl fun nx => ?_
  rw [dec_memreg hc.1 hc.2]
  rfl
theorem six_ways {t : Nat} (h1 : 12 ≤ t) (h2 : t < 18) : t - 12 < 6 := by omega
theorem way_at {e0 e1 e2 e3 e4 e5 : Addr} {j : Nat} (hj : j < 6) (h0 : TupK K [.str "str", .int 4] e0) (h1 : TupK K [.str "ldr", .int 4] e1) (h2 : TupK K [.str "strb", .int 1] e2) (h3 : TupK K [.str "ldrb", .int 1] e3) (h4 : TupK K [.str "strh", .int 2] e4) (h5 : TupK K [.str "ldrh", .int 2] e5) :
    ∃ e, ([.ref e0, .ref e1, .ref e2, .ref e3, .ref e4, .ref e5] : List V)[j]? = some (.ref e) ∧ TupK K [.str (memNames.getD (memOp j) ""), .int ((memSize (memOp j) : Nat) : Int)] e := match j, hj with
  | 0, _ => ⟨e0, rfl, h0⟩
  | 1, _ => ⟨e1, rfl, h1⟩
  | 2, _ => ⟨e2, rfl, h2⟩
  | 3, _ => ⟨e3, rfl, h3⟩
  | 4, _ => ⟨e4, rfl, h4⟩
  | 5, _ => ⟨e5, rfl, h5⟩
theorem size_small {j : Nat} (h : j < 6) : memSize (memOp j) < 2 ^ 64 := (by decide +kernel : ∀ j : _root_.Fin 6, memSize (memOp j.1) < 2 ^ 64) ⟨j, h⟩
theorem fn_move_by_number (T : Txt K mg) : Fn P w K mg base "move_by_number" 1 ["half"] (sp_dec K fun h => 12 ≤ h / 2048 ∧ h / 2048 < 18) := by
  refine dec_fn T.d_move_by_number sc_move_by_number (fun _ _ _ _ _ _ => ln1 (fun _ => rfl)) (fun f cdv A outer s H h Q E hr hh hc k => ?_)
  refine ⟨_, (@pss_cons _ _ _ _ _ (@ps_set _ _ 1 _ _ _ _ sc_move_by_number.nd rfl (Or.inl (lk ok_move_by_number (i := 2) rfl)) (@pe_ix _ _ _ _ _ _ _ ix_tup (@pg_ref _ _ _ _ T.c_BY_NUMBER (lk ok_move_by_number (i := 0) rfl) (nmk nms1 (i := 12) rfl).1) (@pe_op _ _ _ _ _ _ _ _ op_sub (@pe_op _ _ _ _ _ _ _ _ n_shr (@pvx _ _ _ 0 (.inl (lk ok_move_by_number (i := 1) rfl)) (nmk nms0 (i := 15) rfl) rfl) (@pn _ 11 _ _)) (@pn _ 12 _ _)) (fun _ _ => rfl)) rfl (.inl rfl)) (@pss_one _ _ _ (@ps_ret _ _ _ _ (@pe_tup _ _ _ _ _ (@pa_cons _ _ _ _ _ (@pe_ix _ _ _ _ _ _ _ ix_tup (@pvx _ _ _ 1 (.inl (lk ok_move_by_number (i := 2) rfl)) (nmk nms1 (i := 13) rfl) rfl) (@pn _ 0 _ _) (fun _ _ => rfl)) (@pa_cons _ _ _ _ _ (@pe_op _ _ _ _ _ _ _ _ n_and (@pvx _ _ _ 0 (.inl (lk ok_move_by_number (i := 1) rfl)) (nmk nms0 (i := 15) rfl) rfl) (@pn _ 7 _ _)) (@pa_cons _ _ _ _ _ (@pe_op _ _ _ _ _ _ _ _ n_and (@pe_op _ _ _ _ _ _ _ _ n_shr (@pvx _ _ _ 0 (.inl (lk ok_move_by_number (i := 1) rfl)) (nmk nms0 (i := 15) rfl) rfl) (@pn _ 3 _ _)) (@pn _ 7 _ _)) (@pa_cons _ _ _ _ _ pe_non (@pa_cons _ _ _ _ _ (@pe_op _ _ _ _ _ _ _ _ n_mul (@pe_ix _ _ _ _ _ _ _ ix_tup (@pvx _ _ _ 1 (.inl (lk ok_move_by_number (i := 2) rfl)) (nmk nms1 (i := 13) rfl) rfl) (@pn _ 1 _ _) (fun _ _ => rfl)) (@pe_op _ _ _ _ _ _ _ _ n_and (@pe_op _ _ _ _ _ _ _ _ n_shr (@pvx _ _ _ 0 (.inl (lk ok_move_by_number (i := 1) rfl)) (nmk nms0 (i := 15) rfl) rfl) (@pn _ 6 _ _)) (@pn _ 31 _ _))) (@pa_cons _ _ _ _ _ (@pg_ref _ _ _ _ T.c_WITH_PLACE (lk ok_move_by_number (i := 3) rfl) (nmk nms1 (i := 10) rfl).1) pa_nil rfl) rfl) rfl) rfl) rfl) rfl))))), ?_⟩
  have ez : ((h / 2048 : Nat) : Int) - ((12 : Nat) : Int) = ((h / 2048 - 12 : Nat) : Int) := (Int.ofNat_sub hc.1).symm
  have l6 := six_ways hc.1 hc.2
  refine fun a ha => ?_
  obtain ⟨e0, e1, e2, e3, e4, e5, ha, h0, h1, h2, h3, h4, h5⟩ := ha
  obtain ⟨e, hx, he⟩ := way_at l6 h0 h1 h2 h3 h4 h5
  refine is_eq (is_i (is_n (is_var rfl) is_c) is_c) (congrArg V.int ez) _ ?_
  refine ⟨a, _, _, _, rfl, rfl, ha.sq, atN hx, ?_⟩
  refine ret6 k (is_ixT (j := 0) (is_var rfl) is_c he.sq rfl) (i7 (is_var rfl)) (i7 (is_n (is_var rfl) is_c)) is_c (is_nc (is_ixT (j := 1) (is_var rfl) is_c he.sq rfl) (i31 (is_n (is_var rfl) is_c)) (size_small l6)) ["d", "place"] rfl fun nx => ?_
  rw [dec_memimm hc.1 hc.2]
  rfl
theorem stack_way {t : Nat} (h1 : 18 ≤ t) (h2 : t < 20) : (t = 19) = (t % 2 = 1) := by
  rw [eq_iff_iff]
  omega
theorem fn_move_on_stack (T : Txt K mg) : Fn P w K mg base "move_on_stack" 1 ["half"] (sp_dec K fun h => 18 ≤ h / 2048 ∧ h / 2048 < 20) := by
  refine dec_fn T.d_move_on_stack sc_move_on_stack (fun _ _ _ _ _ _ => ln1 (fun _ => rfl)) (fun f cdv A outer s H h Q E hr hh hc k => ?_)
  refine ⟨_, (@pss_cons _ _ _ _ _ (@ps_set _ _ 1 _ _ _ _ sc_move_on_stack.nd rfl (Or.inl (lk ok_move_on_stack (i := 1) rfl)) (@pe_ifExp _ _ _ _ _ _ _ _ (@pt_truth _ _ _ (@pe_op _ _ _ _ _ _ _ _ n_and (@pvx _ _ _ 0 (.inl (lk ok_move_on_stack (i := 0) rfl)) (nmk nms0 (i := 15) rfl) rfl) (@pn _ 2048 _ _)) (fun _ => rfl)) pe_str pe_str) rfl (.inl rfl)) (@pss_one _ _ _ (@ps_ret _ _ _ _ (@pe_tup _ _ _ _ _ (@pa_cons _ _ _ _ _ (@pvx _ _ _ 1 (.inl (lk ok_move_on_stack (i := 1) rfl)) (nmk nms0 (i := 18) rfl) rfl) (@pa_cons _ _ _ _ _ (@pe_op _ _ _ _ _ _ _ _ n_and (@pe_op _ _ _ _ _ _ _ _ n_shr (@pvx _ _ _ 0 (.inl (lk ok_move_on_stack (i := 0) rfl)) (nmk nms0 (i := 15) rfl) rfl) (@pn _ 8 _ _)) (@pn _ 7 _ _)) (@pa_cons _ _ _ _ _ (@pg_int _ _ _ _ T.c_SP (lk ok_move_on_stack (i := 2) rfl) (nmk nms1 (i := 14) rfl).1) (@pa_cons _ _ _ _ _ pe_non (@pa_cons _ _ _ _ _ (@pe_op _ _ _ _ _ _ _ _ n_mul (@pn _ 4 _ _) (@pe_op _ _ _ _ _ _ _ _ n_and (@pvx _ _ _ 0 (.inl (lk ok_move_on_stack (i := 0) rfl)) (nmk nms0 (i := 15) rfl) rfl) (@pn _ 255 _ _))) (@pa_cons _ _ _ _ _ (@pg_ref _ _ _ _ T.c_WITH_PLACE (lk ok_move_on_stack (i := 3) rfl) (nmk nms1 (i := 10) rfl).1) pa_nil rfl) rfl) rfl) rfl) rfl) rfl))))), ?_⟩
  refine is_eq (is_ite (p := h / 2048 % 2 = 1) (pu_tru (is_n (is_var rfl) is_c) (one_bit_ne h 11)) is_c is_c) (ite_str _ _) _ ?_
  refine ret6 k (is_var rfl) (i7 (is_n (is_var rfl) is_c)) is_c is_c (is_nc is_c (i255 (is_var rfl)) m4) ["d", "place"] rfl fun nx => ?_
  rw [dec_stack hc.1 hc.2]
  simp only [stack_way hc.1 hc.2]
  by_cases c : h / 2048 % 2 = 1
  · simp only [if_pos c]
    rfl
  · simp only [if_neg c]
    rfl
end
end Chip

namespace Chip
open PySem L2 LX
section
variable {P : Program} {w : World} {K : PySem.W.Frag} {mg : Str → Option Value} {base : Heap}
noncomputable def oddAt (h : Nat) : Prop := 22 ≤ h / 2048 ∧ h / 2048 < 24
theorem mask15_ne (h : Nat) : (((h &&& 15 : Nat) : Int) != 0) = decide (h % 16 ≠ 0) := by rw [mask_ne, m15]
theorem fn_stack_pointer (T : Txt K mg) : Fn P w K mg base "stack_pointer" 1 ["half"] (sp_dec K fun h => oddAt h ∧ h / 256 % 16 = 0) := by
  refine dec_fn T.d_stack_pointer sc_stack_pointer (fun _ _ _ _ _ _ => ln1 (fun _ => rfl)) (fun f cdv A outer s H h Q E hr hh hc k => ?_)
  refine ⟨_, (@pss_cons _ _ _ _ _ (@ps_set _ _ 1 _ _ _ _ sc_stack_pointer.nd rfl (Or.inl (lk ok_stack_pointer (i := 1) rfl)) (@pe_ifExp _ _ _ _ _ _ _ _ (@pt_truth _ _ _ (@pe_op _ _ _ _ _ _ _ _ n_and (@pvx _ _ _ 0 (.inl (lk ok_stack_pointer (i := 0) rfl)) (nmk nms0 (i := 15) rfl) rfl) (@pn _ 128 _ _)) (fun _ => rfl)) pe_str pe_str) rfl (.inl rfl)) (@pss_one _ _ _ (@ps_ret _ _ _ _ (@pe_tup _ _ _ _ _ (@pa_cons _ _ _ _ _ (@pvx _ _ _ 1 (.inl (lk ok_stack_pointer (i := 1) rfl)) (nmk nms0 (i := 18) rfl) rfl) (@pa_cons _ _ _ _ _ (@pg_int _ _ _ _ T.c_SP (lk ok_stack_pointer (i := 2) rfl) (nmk nms1 (i := 14) rfl).1) (@pa_cons _ _ _ _ _ (@pg_int _ _ _ _ T.c_SP (lk ok_stack_pointer (i := 2) rfl) (nmk nms1 (i := 14) rfl).1) (@pa_cons _ _ _ _ _ pe_non (@pa_cons _ _ _ _ _ (@pe_op _ _ _ _ _ _ _ _ n_mul (@pn _ 4 _ _) (@pe_op _ _ _ _ _ _ _ _ n_and (@pvx _ _ _ 0 (.inl (lk ok_stack_pointer (i := 0) rfl)) (nmk nms0 (i := 15) rfl) rfl) (@pn _ 127 _ _))) (@pa_cons _ _ _ _ _ (@pg_ref _ _ _ _ T.c_OF_TWO (lk ok_stack_pointer (i := 3) rfl) (nmk nms0 (i := 21) rfl).1) pa_nil rfl) rfl) rfl) rfl) rfl) rfl))))), ?_⟩
  refine is_eq (is_ite (p := h / 128 % 2 = 1) (pu_tru (is_n (is_var rfl) is_c) (one_bit_ne h 7)) is_c is_c) (ite_str _ _) _ ?_
  refine ret6 k (is_var rfl) is_c is_c is_c (is_nc is_c (i127 (is_var rfl)) m4) ["d", "second"] rfl fun nx => ?_
  rw [dec_odd hc.1.1 hc.1.2, if_pos hc.2]
  show (⟨if (h / 128 % 2 == 1) = true then "sub" else "add", _, _, _, _, _⟩ : Ab) = _
  simp only [beq_if]
theorem fn_extension (T : Txt K mg) : Fn P w K mg base "extension" 1 ["half"] (sp_dec K fun h => oddAt h ∧ h / 256 % 16 = 2) := by
  refine dec_fn T.d_extension sc_extension (fun _ _ _ _ _ _ => ln1 (fun _ => rfl)) (fun f cdv A outer s H h Q E hr hh hc k => ?_)
  refine ⟨_, (@pss_one _ _ _ (@ps_ret _ _ _ _ (@pe_tup _ _ _ _ _ (@pa_cons _ _ _ _ _ (@pe_ix _ _ _ _ _ _ _ ix_tup (@pg_ref _ _ _ _ T.c_EXTENSIONS (lk ok_extension (i := 0) rfl) (nmk nms1 (i := 15) rfl).1) (@pe_op _ _ _ _ _ _ _ _ n_and (@pe_op _ _ _ _ _ _ _ _ n_shr (@pvx _ _ _ 0 (.inl (lk ok_extension (i := 1) rfl)) (nmk nms0 (i := 15) rfl) rfl) (@pn _ 6 _ _)) (@pn _ 3 _ _)) (fun _ _ => rfl)) (@pa_cons _ _ _ _ _ (@pe_op _ _ _ _ _ _ _ _ n_and (@pvx _ _ _ 0 (.inl (lk ok_extension (i := 1) rfl)) (nmk nms0 (i := 15) rfl) rfl) (@pn _ 7 _ _)) (@pa_cons _ _ _ _ _ pe_non (@pa_cons _ _ _ _ _ (@pe_op _ _ _ _ _ _ _ _ n_and (@pe_op _ _ _ _ _ _ _ _ n_shr (@pvx _ _ _ 0 (.inl (lk ok_extension (i := 1) rfl)) (nmk nms0 (i := 15) rfl) rfl) (@pn _ 3 _ _)) (@pn _ 7 _ _)) (@pa_cons _ _ _ _ _ (@pn _ 0 _ _) (@pa_cons _ _ _ _ _ (@pg_ref _ _ _ _ T.c_OF_TWO (lk ok_extension (i := 2) rfl) (nmk nms0 (i := 21) rfl).1) pa_nil rfl) rfl) rfl) rfl) rfl) rfl)))), ?_⟩
  refine ret6 k (is_ixG (i3 (is_n (is_var rfl) is_c)) (nm_at (L := extNames) (Nat.mod_lt _ (by decide)) rfl)) (i7 (is_var rfl)) is_c (i7 (is_n (is_var rfl) is_c)) is_c ["d", "second"] rfl fun nx => ?_
  rw [dec_odd hc.1.1 hc.1.2, hc.2]
  rfl
theorem turn_name {j : Nat} (h : j < 4) : turnNames.getD j "" = "none" ↔ j = 2 := (by decide +kernel : ∀ j : _root_.Fin 4, turnNames.getD j.1 "" = "none" ↔ j.1 = 2) ⟨j, h⟩
theorem fn_turned_bytes (T : Txt K mg) : Fn P w K mg base "turned_bytes" 1 ["half"] (sp_dec K fun h => oddAt h ∧ h / 256 % 16 = 10) := by
  refine dec_fn T.d_turned_bytes sc_turned_bytes (fun _ _ _ _ _ _ => ln1 (fun _ => rfl)) (fun f cdv A outer s H h Q E hr hh hc k => ?_)
  refine ⟨_, (@pss_cons _ _ _ _ _ (@ps_set _ _ 1 _ _ _ _ sc_turned_bytes.nd rfl (Or.inl (lk ok_turned_bytes (i := 2) rfl)) (@pe_ix _ _ _ _ _ _ _ ix_tup (@pg_ref _ _ _ _ T.c_TURNS (lk ok_turned_bytes (i := 0) rfl) (nmk nms1 (i := 16) rfl).1) (@pe_op _ _ _ _ _ _ _ _ n_and (@pe_op _ _ _ _ _ _ _ _ n_shr (@pvx _ _ _ 0 (.inl (lk ok_turned_bytes (i := 1) rfl)) (nmk nms0 (i := 15) rfl) rfl) (@pn _ 6 _ _)) (@pn _ 3 _ _)) (fun _ _ => rfl)) rfl (.inl rfl)) (@pss_cons _ _ _ _ _ (@ps_if _ _ _ _ _ _ _ _ (@pt_cmpR _ _ _ _ _ _ _ _ op_eq (@pvx _ _ _ 1 (.inl (lk ok_turned_bytes (i := 2) rfl)) (nmk nms0 (i := 18) rfl) rfl) pe_str rfl) (@pss_one _ _ _ (@ps_ret _ _ _ _ (@pg_ref _ _ _ _ T.c_NONE (lk ok_turned_bytes (i := 3) rfl) (nmk nms0 (i := 14) rfl).1))) pss_nil) (@pss_one _ _ _ (@ps_ret _ _ _ _ (@pe_tup _ _ _ _ _ (@pa_cons _ _ _ _ _ (@pvx _ _ _ 1 (.inl (lk ok_turned_bytes (i := 2) rfl)) (nmk nms0 (i := 18) rfl) rfl) (@pa_cons _ _ _ _ _ (@pe_op _ _ _ _ _ _ _ _ n_and (@pvx _ _ _ 0 (.inl (lk ok_turned_bytes (i := 1) rfl)) (nmk nms0 (i := 15) rfl) rfl) (@pn _ 7 _ _)) (@pa_cons _ _ _ _ _ pe_non (@pa_cons _ _ _ _ _ (@pe_op _ _ _ _ _ _ _ _ n_and (@pe_op _ _ _ _ _ _ _ _ n_shr (@pvx _ _ _ 0 (.inl (lk ok_turned_bytes (i := 1) rfl)) (nmk nms0 (i := 15) rfl) rfl) (@pn _ 3 _ _)) (@pn _ 7 _ _)) (@pa_cons _ _ _ _ _ (@pn _ 0 _ _) (@pa_cons _ _ _ _ _ (@pg_ref _ _ _ _ T.c_OF_TWO (lk ok_turned_bytes (i := 4) rfl) (nmk nms0 (i := 21) rfl).1) pa_nil rfl) rfl) rfl) rfl) rfl) rfl)))))), ?_⟩
  have l4 : h / 64 % 4 < 4 := Nat.mod_lt _ (by decide)
  refine is_ixG (j := h / 64 % 4) (by exact i3 (is_n (is_var rfl) is_c)) (nm_at (L := turnNames) l4 rfl) _ ?_
  refine ifsP (p := h / 64 % 4 = 2) (pu_test (is_eqS (is_var rfl) is_c (turn_name l4))) (fun c => ?_) (fun c => ?_)
  · refine ret_none k fun nx => ?_
    rw [dec_odd hc.1.1 hc.1.2, hc.2]
    exact if_pos c
  · refine ret6 k (is_var rfl) (i7 (is_var rfl)) is_c (i7 (is_n (is_var rfl) is_c)) is_c ["d", "second"] rfl fun nx => ?_
    rw [dec_odd hc.1.1 hc.1.2, hc.2]
    exact congrArg abOf (if_neg c)
theorem fn_bkpt (T : Txt K mg) : Fn P w K mg base "bkpt" 1 ["half"] (sp_dec K fun h => oddAt h ∧ h / 256 % 16 = 14) := by
  refine dec_fn T.d_bkpt sc_bkpt (fun _ _ _ _ _ _ => ln1 (fun _ => rfl)) (fun f cdv A outer s H h Q E hr hh hc k => ?_)
  refine ⟨_, (@pss_one _ _ _ (@ps_ret _ _ _ _ (@pe_tup _ _ _ _ _ (@pa_cons _ _ _ _ _ pe_str (@pa_cons _ _ _ _ _ pe_non (@pa_cons _ _ _ _ _ pe_non (@pa_cons _ _ _ _ _ pe_non (@pa_cons _ _ _ _ _ (@pe_op _ _ _ _ _ _ _ _ n_and (@pvx _ _ _ 0 (.inl (lk ok_bkpt (i := 0) rfl)) (nmk nms0 (i := 15) rfl) rfl) (@pn _ 255 _ _)) (@pa_cons _ _ _ _ _ (@pg_ref _ _ _ _ T.c_OF_ONE (lk ok_bkpt (i := 1) rfl) (nmk nms1 (i := 9) rfl).1) pa_nil rfl) rfl) rfl) rfl) rfl) rfl)))), ?_⟩
  refine ret6 k is_c is_c is_c is_c (i255 (is_var rfl)) ["second"] rfl fun nx => ?_
  rw [dec_odd hc.1.1 hc.1.2, hc.2]
  rfl
theorem fn_hint (T : Txt K mg) : Fn P w K mg base "hint" 1 ["half"] (sp_dec K fun h => oddAt h ∧ h / 256 % 16 = 15) := by
  refine dec_fn T.d_hint sc_hint (fun _ _ _ _ _ _ => ln1 (fun _ => rfl)) (fun f cdv A outer s H h Q E hr hh hc k => ?_)
  refine ⟨_, (@pss_cons _ _ _ _ _ (@ps_if _ _ _ _ _ _ _ _ (@pt_truth _ _ _ (@pe_op _ _ _ _ _ _ _ _ n_and (@pvx _ _ _ 0 (.inl (lk ok_hint (i := 0) rfl)) (nmk nms0 (i := 15) rfl) rfl) (@pn _ 15 _ _)) (fun _ => rfl)) (@pss_one _ _ _ (@ps_ret _ _ _ _ (@pg_ref _ _ _ _ T.c_NONE (lk ok_hint (i := 1) rfl) (nmk nms0 (i := 14) rfl).1))) pss_nil) (@pss_one _ _ _ (@ps_ret _ _ _ _ (@pe_tup _ _ _ _ _ (@pa_cons _ _ _ _ _ pe_str (@pa_cons _ _ _ _ _ pe_non (@pa_cons _ _ _ _ _ pe_non (@pa_cons _ _ _ _ _ pe_non (@pa_cons _ _ _ _ _ (@pn _ 0 _ _) (@pa_cons _ _ _ _ _ (@pg_ref _ _ _ _ T.c_ALONE (lk ok_hint (i := 2) rfl) (nmk nms1 (i := 22) rfl).1) pa_nil rfl) rfl) rfl) rfl) rfl) rfl))))), ?_⟩
  refine ifsP (p := h % 16 ≠ 0) (pu_tru (is_n (is_var rfl) is_c) (mask15_ne h)) (fun c => ?_) (fun c => ?_)
  · refine ret_none k fun nx => ?_
    rw [dec_odd hc.1.1 hc.1.2, hc.2]
    exact if_neg (c := (15 : Nat) = 15 ∧ h % 16 = 0) fun z => c z.2
  · refine ret6 k is_c is_c is_c is_c is_c [] rfl fun nx => ?_
    rw [dec_odd hc.1.1 hc.1.2, hc.2]
    exact congrArg abOf (if_pos (c := (15 : Nat) = 15 ∧ h % 16 = 0) ⟨rfl, Classical.not_not.mp c⟩)
theorem filter_snoc (p : Nat → Bool) (i : Nat) : (List.range (i + 1)).filter p = (List.range i).filter p ++ (if p i = true then [i] else []) := by
  rw [List.range_succ, List.filter_append]
  congr 1
  cases e : p i <;> simp [e]
theorem listOf_low (h : Nat) : Sd12.listOf (h % 256) = Sd12.listOf h := by
  unfold Sd12.listOf
  apply List.filter_congr
  intro i hi
  rw [List.mem_range] at hi
  have tb : ∀ x, Sd12.bit x i = x.testBit i := fun x => by
    rw [Nat.testBit_eq_decide_div_mod_eq]
    rfl
  rw [tb, tb, show (256 : Nat) = 2 ^ 8 from rfl, Nat.testBit_mod_two_pow, decide_eq_true hi, Bool.true_and]
noncomputable def regsOf (h nn : Nat) : List Nat := Sd12.listOf h ++ if h / 256 % 2 = 1 then [nn] else []
noncomputable def sp_listed (K : PySem.W.Frag) : Sp := fun vs H Q _ => ∃ (h nn : Nat) (x : V), vs = [vN h, x] ∧ h < 65536 ∧ (h / 256 % 2 = 1 → x = vN nn) ∧ ∀ p H', Same H H' → SqT K H' p ((regsOf h nn).map vN) → Q (.ref p) H'
theorem len_filter (p : Nat → Bool) (n : Nat) : ((List.range n).filter p).length ≤ n := by
  have := List.length_filter_le p (List.range n)
  rw [List.length_range] at this
  exact this
theorem small_line {n : Nat} (h : n ≤ 100) : n < sizeLine := Nat.lt_of_le_of_lt h (by decide)
theorem fn_listed (T : Txt K mg) : Fn P w K mg base "listed" 1 ["half", "ninth"] (sp_listed K) := by
  refine T.d_listed.fn sc_listed (fun _ _ _ _ _ _ => ln2 (fun _ _ => rfl)) (fun vs H Q E h => ?_) (fun f cdv A outer s H vs Q E hr h => ?_)
  · obtain ⟨h, nn, x, rfl, _⟩ := h
    rfl
  obtain ⟨h, nn, x, rfl, hh, hx, k⟩ := h
  refine ⟨_, (@pss_cons _ _ _ _ _ (@ps_setLc _ 2 _ _ _ _ _ _ _ [("r", 3)] _ _ _ _ _ _ rfl sc_listed.nd rfl rfl (sw_true rfl rfl rfl (by decide +kernel)) (@pi_range1 _ _ _ _ _ _ (lk ok_listed (i := 0) rfl) T.n_range (@pa_cons _ _ _ _ _ (@pn _ 8 _ _) pa_nil rfl) rfl) blk_listed (fun _ _ _ _ _ => pg_name (i := 3) sc_listed.nd rfl (Or.inl rfl) (by first | exact .inl rfl | exact .inr rfl)) (fun _ _ _ _ _ => (@pts_one _ _ _ (@pt_truthK _ K _ _ rfl (@pe_op _ _ _ _ _ _ _ _ n_and (@pe_op _ _ _ _ _ _ _ _ n_shr (pv 0 rfl (by first | exact Or.inl rfl | exact Or.inr (Or.inl rfl) | exact Or.inr (Or.inr rfl)) rfl rfl) (pv 3 rfl (by first | exact Or.inl rfl | exact Or.inr (Or.inl rfl) | exact Or.inr (Or.inr rfl)) rfl rfl)) (@pn _ 1 _ _)) (fun _ => rfl)))) (fun _ _ _ _ _ => (pv 3 rfl (by first | exact Or.inl rfl | exact Or.inr (Or.inl rfl) | exact Or.inr (Or.inr rfl)) rfl rfl)) (by intro _; rfl)) (@pss_cons _ _ _ _ _ (@ps_if _ _ _ _ _ _ _ _ (@pt_truth _ _ _ (@pe_op _ _ _ _ _ _ _ _ n_and (@pvx _ _ _ 0 (.inr (.inl (lk ok_listed (i := 1) rfl))) (nmk nms0 (i := 15) rfl) rfl) (@pn _ 256 _ _)) (fun _ => rfl)) (@pss_one _ _ _ (@ps_expr _ _ _ _ (@pe_bm _ _ _ _ _ _ _ _ _ _ _ _ PySem.F.plainAttrs_list PySem.F.slot_list_append PySem.F.type_list_append mt_append (@pvx _ _ _ 2 (.inl (lk ok_listed (i := 2) rfl)) (nmk nms1 (i := 17) rfl) rfl) (@pa_cons _ _ _ _ _ (@pvx _ _ _ 1 (.inl (lk ok_listed (i := 3) rfl)) (nmk nms1 (i := 18) rfl) rfl) pa_nil rfl) rfl rfl rfl rfl rfl) rfl)) pss_nil) (@pss_one _ _ _ (@ps_ret _ _ _ _ (@pe_callTy _ _ _ _ _ _ _ _ _ call_tuple_of (lk ok_listed (i := 4) rfl) T.n_tuple is_tuple (@pa_cons _ _ _ _ _ (@pvx _ _ _ 2 (.inl (lk ok_listed (i := 2) rfl)) (nmk nms1 (i := 17) rfl) rfl) pa_nil rfl) nn_tuple (nmk nms0 (i := 2) rfl).1 rfl rfl))))), ?_⟩
  refine ⟨((8 : Nat) : Int), rfl, by decide, by decide, fun D hD => ?_⟩
  refine lc_range (n := ((8 : Nat) : Int).toNat) (fun i H' => H' D = some (.lst (((List.range i).filter fun j => Sd12.bit h j).map vN)) ∧ Same H H') ⟨upd_same, same_upd hD⟩ (fun i H' hi hP => ?_) (fun H' hP => ?_)
  · have hi : i < 8 := hi
    obtain ⟨h1, h2⟩ := hP
    have e1 : (((h / 2 ^ i &&& 1 : Nat) : Int) != 0) = Sd12.bit h i := by
      rw [mask_ne, m1]
      unfold Sd12.bit
      rcases Nat.mod_two_eq_zero_or_one (h / 2 ^ i) with e | e <;> rw [e] <;> rfl
    have ei : (0 : Int) + ((i : Nat) : Int) = ((i : Nat) : Int) := Int.zero_add _
    rw [ei]
    refine ⟨rfl, ⟨_, rfl, _, rfl, _, _, rfl, rfl, _, _, rfl, rfl, _, e1.symm, ?_⟩⟩
    refine ite2 (fun c => ?_) (fun c => ?_)
    · refine ⟨_, rfl, _, h1, ?_, upd_same.trans ?_, fun b o e => ?_⟩
      · rw [List.length_map]
        exact small_line (Nat.le_trans (len_filter _ _) (Nat.le_trans (Nat.le_of_lt hi) (by decide)))
      · rw [filter_snoc, if_pos c, List.map_append]
        rfl
      · have z := h2 b o e
        rw [upd_ne (ne_of_none e hD)]
        exact z
    · refine ⟨h1.trans ?_, h2⟩
      rw [filter_snoc, if_neg c, List.append_nil]
  · have hP : H' D = some (.lst (((List.range 8).filter fun j => Sd12.bit h j).map vN)) ∧ Same H H' := hP
    obtain ⟨h1, h2⟩ := hP
    have e1 : (((h &&& 256 : Nat) : Int) != 0) = decide (h / 256 % 2 = 1) := one_bit_ne h 8
    refine ⟨_, rfl, _, _, rfl, rfl, _, e1.symm, ?_⟩
    refine ite2 (fun c => ?_) (fun c => ?_)
    · rw [decide_eq_true_eq] at c
      obtain rfl := hx c
      refine ⟨_, rfl, .inl ⟨rfl, _, .of h1⟩, _, rfl, _, _, _, rfl, rfl, h1, ?_, ?_⟩
      · rw [List.length_map]
        exact small_line (Nat.le_trans (len_filter _ _) (by decide))
      · refine ⟨_, rfl, _, _, rfl, .inl ⟨.of upd_same, fun l hl => ?_⟩⟩
        have sD : Same H (upd H' D (.lst (((List.range 8).filter fun j => Sd12.bit h j).map vN ++ [vN nn]))) := fun b o e => by
          rw [upd_ne (ne_of_none e hD)]
          exact h2 b o e
        refine k l _ (sD.trans (same_upd hl)) (.of ?_)
        rw [upd_same]
        unfold regsOf Sd12.listOf
        rw [if_pos c, List.map_append]
        rfl
    · rw [decide_eq_true_eq] at c
      refine ⟨_, rfl, _, _, rfl, .inl ⟨.of h1, fun l hl => ?_⟩⟩
      refine k l _ (h2.trans (same_upd hl)) (.of ?_)
      rw [upd_same]
      unfold regsOf Sd12.listOf
      rw [if_neg c, List.append_nil]
end
end Chip

namespace Chip
open PySem L2 LX
section
variable {P : Program} {w : World} {K : PySem.W.Frag} {mg : Str → Option Value} {base : Heap}
theorem ins_mkL {H : Hp} {p a q : Addr} {b : Ab} {nm : Str} {d n m : V} {l : List Nat} {ops : List Str} {xs : List V} (hp : H p = some (.tup [.str nm, d, n, m, .ref q, .ref a])) (hq : SqT K H q (l.map vN)) (ha : TupK K xs a) (ho : xs = ops.map V.str) (e : b = ⟨nm, d, n, m, .inr l, ops⟩) : InsAt K H p b := by
  subst e ho
  exact ⟨_, a, .of hp, ha.sq, q, rfl, hq⟩
theorem retL {σ : L2.St} {H : Hp} {h hl nn : Nat} {Q : VK} {t0 t1 t2 t3 : TE} {ta : TA} {nm : Str} {d n m x : V} {xs : List V} (k : KD K H h Q) (h0 : Is t0 σ H (.str nm)) (h1 : Is t1 σ H d) (h2 : Is t2 σ H n) (h3 : Is t3 σ H m) (h4 : IsA ta σ H [vN hl, x]) (hh : hl < 65536) (hx : hl / 256 % 2 = 1 → x = vN nn)
    (ops : List Str) (ho : xs = ops.map V.str) (e : ∀ nx, abOf (Sd12.decode h nx) = ⟨nm, d, n, m, .inr (regsOf hl nn), ops⟩) :
    tTup (tCons t0 (tCons t1 (tCons t2 (tCons t3 (tCons (tFn (sp_listed K) ta) (tCons (tGr (TupK K xs)) tNil)))))) σ H Q :=
  h0 _ (h1 _ (h2 _ (h3 _ (h4 _ ⟨hl, nn, x, rfl, hh, hx, fun q H1 s1 hq a ha => ⟨six, fun p hp => k p _ (s1.trans (same_upd hp)) fun nx => ins_mkL upd_same (SqT.same (same_upd hp) hq) ha ho (e nx)⟩⟩))))
theorem par {h j : Nat} (e : h / 256 % 16 = j) : h / 256 % 2 = j % 2 := by rw [← e, Nat.mod_mod_of_dvd _ (by decide)]
theorem dec_push {h : Nat} (ho : oddAt h) (c : h / 256 % 16 = 4 ∨ h / 256 % 16 = 5) (nx : Nat) : Sd12.decode h nx = if h % 512 = 0 then none else some (.push (regsOf h 14)) := by
  rw [dec_odd ho.1 ho.2]
  unfold regsOf
  rw [listOf_low]
  rcases c with c | c
  · rw [par c, c]
    rfl
  · rw [par c, c]
    rfl
theorem dec_pop {h : Nat} (ho : oddAt h) (c : h / 256 % 16 = 12 ∨ h / 256 % 16 = 13) (nx : Nat) : Sd12.decode h nx = if h % 512 = 0 then none else some (.pop (regsOf h 15)) := by
  rw [dec_odd ho.1 ho.2]
  unfold regsOf
  rw [listOf_low]
  rcases c with c | c
  · rw [par c, c]
    rfl
  · rw [par c, c]
    rfl
theorem i511 {σ : L2.St} {H : Hp} {ta : TE} {x : Nat} (ha : Is ta σ H (vN x)) : Is (tOp (rN fun a b => a &&& b) ta (tC (.int ((511 : Nat) : Int)))) σ H (vN (x % 512)) := is_eq (is_n ha is_c) (congrArg vN (m511 x))
theorem i2047 {σ : L2.St} {H : Hp} {ta : TE} {x : Nat} (ha : Is ta σ H (vN x)) : Is (tOp (rN fun a b => a &&& b) ta (tC (.int ((2047 : Nat) : Int)))) σ H (vN (x % 2048)) := is_eq (is_n ha is_c) (congrArg vN (m2047 x))
theorem fn_push_list (T : Txt K mg) : Fn P w K mg base "push_list" 2 ["half"] (sp_dec K fun h => oddAt h ∧ (h / 256 % 16 = 4 ∨ h / 256 % 16 = 5)) := by
  have G_listed := fn_listed (P := P) (w := w) (base := base) T
  refine dec_fn T.d_push_list sc_push_list (fun _ _ _ _ _ _ => ln1 (fun _ => rfl)) (fun f cdv A outer s H h Q E hr hh hc k => ?_)
  refine ⟨_, (@pss_cons _ _ _ _ _ (@ps_if _ _ _ _ _ _ _ _ (@pt_cmpR _ _ _ _ _ _ _ _ op_eq (@pe_op _ _ _ _ _ _ _ _ n_and (@pvx _ _ _ 0 (.inl (lk ok_push_list (i := 0) rfl)) (nmk nms0 (i := 15) rfl) rfl) (@pn _ 511 _ _)) (@pn _ 0 _ _) rfl) (@pss_one _ _ _ (@ps_ret _ _ _ _ (@pg_ref _ _ _ _ T.c_NONE (lk ok_push_list (i := 1) rfl) (nmk nms0 (i := 14) rfl).1))) pss_nil) (@pss_one _ _ _ (@ps_ret _ _ _ _ (@pe_tup _ _ _ _ _ (@pa_cons _ _ _ _ _ pe_str (@pa_cons _ _ _ _ _ pe_non (@pa_cons _ _ _ _ _ (@pg_int _ _ _ _ T.c_SP (lk ok_push_list (i := 2) rfl) (nmk nms1 (i := 14) rfl).1) (@pa_cons _ _ _ _ _ pe_non (@pa_cons _ _ _ _ _ (@pe_fn _ _ _ _ _ _ _ _ _ _ G_listed (hr.mono (by decide)) (lk ok_push_list (i := 3) rfl) (@pa_cons _ _ _ _ _ (@pvx _ _ _ 0 (.inl (lk ok_push_list (i := 0) rfl)) (nmk nms0 (i := 15) rfl) rfl) (@pa_cons _ _ _ _ _ (@pg_int _ _ _ _ T.c_LR (lk ok_push_list (i := 4) rfl) (nmk nms1 (i := 19) rfl).1) pa_nil rfl) rfl) (nmk nms1 (i := 20) rfl).1 rfl rfl) (@pa_cons _ _ _ _ _ (@pg_ref _ _ _ _ T.c_WITH_LIST (lk ok_push_list (i := 5) rfl) (nmk nms1 (i := 21) rfl).1) pa_nil rfl) rfl) rfl) rfl) rfl) rfl))))), ?_⟩
  refine ifsP (p := h % 512 = 0) (pu_test (is_eqN (i511 (is_var rfl)) is_c)) (fun c => ?_) (fun c => ?_)
  · exact ret_none k fun nx => (dec_push hc.1 hc.2 nx).trans (if_pos c)
  · exact retL k is_c is_c is_c is_c (isa_cons (is_var rfl) (isa_cons is_c isa_nil)) hh (fun _ => rfl) ["list"] rfl fun nx => congrArg abOf ((dec_push hc.1 hc.2 nx).trans (if_neg c))
theorem fn_pop_list (T : Txt K mg) : Fn P w K mg base "pop_list" 2 ["half"] (sp_dec K fun h => oddAt h ∧ (h / 256 % 16 = 12 ∨ h / 256 % 16 = 13)) := by
  have G_listed := fn_listed (P := P) (w := w) (base := base) T
  refine dec_fn T.d_pop_list sc_pop_list (fun _ _ _ _ _ _ => ln1 (fun _ => rfl)) (fun f cdv A outer s H h Q E hr hh hc k => ?_)
  refine ⟨_, (@pss_cons _ _ _ _ _ (@ps_if _ _ _ _ _ _ _ _ (@pt_cmpR _ _ _ _ _ _ _ _ op_eq (@pe_op _ _ _ _ _ _ _ _ n_and (@pvx _ _ _ 0 (.inl (lk ok_pop_list (i := 0) rfl)) (nmk nms0 (i := 15) rfl) rfl) (@pn _ 511 _ _)) (@pn _ 0 _ _) rfl) (@pss_one _ _ _ (@ps_ret _ _ _ _ (@pg_ref _ _ _ _ T.c_NONE (lk ok_pop_list (i := 1) rfl) (nmk nms0 (i := 14) rfl).1))) pss_nil) (@pss_one _ _ _ (@ps_ret _ _ _ _ (@pe_tup _ _ _ _ _ (@pa_cons _ _ _ _ _ pe_str (@pa_cons _ _ _ _ _ pe_non (@pa_cons _ _ _ _ _ (@pg_int _ _ _ _ T.c_SP (lk ok_pop_list (i := 2) rfl) (nmk nms1 (i := 14) rfl).1) (@pa_cons _ _ _ _ _ pe_non (@pa_cons _ _ _ _ _ (@pe_fn _ _ _ _ _ _ _ _ _ _ G_listed (hr.mono (by decide)) (lk ok_pop_list (i := 3) rfl) (@pa_cons _ _ _ _ _ (@pvx _ _ _ 0 (.inl (lk ok_pop_list (i := 0) rfl)) (nmk nms0 (i := 15) rfl) rfl) (@pa_cons _ _ _ _ _ (@pg_int _ _ _ _ T.c_PC (lk ok_pop_list (i := 4) rfl) (nmk nms1 (i := 8) rfl).1) pa_nil rfl) rfl) (nmk nms1 (i := 20) rfl).1 rfl rfl) (@pa_cons _ _ _ _ _ (@pg_ref _ _ _ _ T.c_WITH_LIST (lk ok_pop_list (i := 5) rfl) (nmk nms1 (i := 21) rfl).1) pa_nil rfl) rfl) rfl) rfl) rfl) rfl))))), ?_⟩
  refine ifsP (p := h % 512 = 0) (pu_test (is_eqN (i511 (is_var rfl)) is_c)) (fun c => ?_) (fun c => ?_)
  · exact ret_none k fun nx => (dec_pop hc.1 hc.2 nx).trans (if_pos c)
  · exact retL k is_c is_c is_c is_c (isa_cons (is_var rfl) (isa_cons is_c isa_nil)) hh (fun _ => rfl) ["list"] rfl fun nx => congrArg abOf ((dec_pop hc.1 hc.2 nx).trans (if_neg c))
theorem low_no (h : Nat) : ¬ h % 256 / 256 % 2 = 1 := by
  rw [Nat.div_eq_of_lt (Nat.mod_lt _ (by decide))]
  decide
theorem regs_low (h : Nat) : regsOf (h % 256) 0 = Sd12.listOf (h % 256) := by
  unfold regsOf
  rw [if_neg (low_no h), List.append_nil]
theorem low_lt (h : Nat) : h % 256 < 65536 := Nat.lt_trans (Nat.mod_lt _ (by decide)) (by decide)
theorem listOf_nil (x : Nat) (hx : x < 256) : Sd12.listOf x = [] ↔ x = 0 := by
  have all : ∀ j : _root_.Fin 256, Sd12.listOf j.1 = [] ↔ j.1 = 0 := by decide +kernel
  exact all ⟨x, hx⟩
theorem flat_ints (l : List Nat) : (l.map vN).all flatV = true := by
  induction l with
  | nil => rfl
  | cons a l ih =>
    rw [List.map_cons, List.all_cons, ih]
    rfl
theorem inV_ints (n : Nat) (l : List Nat) : inV (vN n) (l.map vN) = l.contains n := by
  induction l with
  | nil => rfl
  | cons a l ih =>
    rw [List.contains_cons, ← ih]
    show (eqV (vN a) (vN n) || _) = _
    congr 1
    show ((a : Int) == (n : Int)) = (n == a)
    rw [Bool.eq_iff_iff]
    simp only [beq_iff_eq]
    omega
theorem fn_load_list (T : Txt K mg) : Fn P w K mg base "load_list" 2 ["half"] (sp_dec K fun h => h / 2048 = 25) := by
  have G_listed := fn_listed (P := P) (w := w) (base := base) T
  refine dec_fn T.d_load_list sc_load_list (fun _ _ _ _ _ _ => ln1 (fun _ => rfl)) (fun f cdv A outer s H h Q E hr hh hc k => ?_)
  refine ⟨_, (@pss_cons _ _ _ _ _ (@ps_if _ _ _ _ _ _ _ _ (@pt_cmpR _ _ _ _ _ _ _ _ op_eq (@pe_op _ _ _ _ _ _ _ _ n_and (@pvx _ _ _ 0 (.inl (lk ok_load_list (i := 0) rfl)) (nmk nms0 (i := 15) rfl) rfl) (@pn _ 255 _ _)) (@pn _ 0 _ _) rfl) (@pss_one _ _ _ (@ps_ret _ _ _ _ (@pg_ref _ _ _ _ T.c_NONE (lk ok_load_list (i := 1) rfl) (nmk nms0 (i := 14) rfl).1))) pss_nil) (@pss_one _ _ _ (@ps_ret _ _ _ _ (@pe_tup _ _ _ _ _ (@pa_cons _ _ _ _ _ pe_str (@pa_cons _ _ _ _ _ pe_non (@pa_cons _ _ _ _ _ (@pe_op _ _ _ _ _ _ _ _ n_and (@pe_op _ _ _ _ _ _ _ _ n_shr (@pvx _ _ _ 0 (.inl (lk ok_load_list (i := 0) rfl)) (nmk nms0 (i := 15) rfl) rfl) (@pn _ 8 _ _)) (@pn _ 7 _ _)) (@pa_cons _ _ _ _ _ pe_non (@pa_cons _ _ _ _ _ (@pe_fn _ _ _ _ _ _ _ _ _ _ G_listed (hr.mono (by decide)) (lk ok_load_list (i := 2) rfl) (@pa_cons _ _ _ _ _ (@pe_op _ _ _ _ _ _ _ _ n_and (@pvx _ _ _ 0 (.inl (lk ok_load_list (i := 0) rfl)) (nmk nms0 (i := 15) rfl) rfl) (@pn _ 255 _ _)) (@pa_cons _ _ _ _ _ pe_non pa_nil rfl) rfl) (nmk nms1 (i := 20) rfl).1 rfl rfl) (@pa_cons _ _ _ _ _ (@pg_ref _ _ _ _ T.c_WITH_BASE_AND_LIST (lk ok_load_list (i := 3) rfl) (nmk nms2 (i := 0) rfl).1) pa_nil rfl) rfl) rfl) rfl) rfl) rfl))))), ?_⟩
  have en := listOf_nil (h % 256) (Nat.mod_lt _ (by decide))
  have h1 : 24 ≤ h / 2048 := by rw [hc]; decide
  have h2 : h / 2048 < 26 := by rw [hc]; decide
  refine ifsP (p := h % 256 = 0) (pu_test (is_eqN (i255 (is_var rfl)) is_c)) (fun c => ?_) (fun c => ?_)
  · exact ret_none k fun nx => (dec_many h1 h2).trans (if_pos (.inl (en.mpr c)))
  · refine retL (hl := h % 256) (nn := 0) k is_c is_c (i7 (is_n (is_var rfl) is_c)) is_c (isa_cons (i255 (is_var rfl)) (isa_cons is_c isa_nil)) (low_lt h) (fun z => absurd z (low_no h)) ["base", "list"] rfl fun nx => ?_
    rw [dec_many h1 h2, if_neg (fun z => z.elim (fun z => c (en.mp z)) fun z => absurd (hc.symm.trans z.1) (by decide)), hc, regs_low]
    rfl
theorem fn_store_list (T : Txt K mg) : Fn P w K mg base "store_list" 2 ["half"] (sp_dec K fun h => h / 2048 = 24) := by
  have G_listed := fn_listed (P := P) (w := w) (base := base) T
  refine dec_fn T.d_store_list sc_store_list (fun _ _ _ _ _ _ => ln1 (fun _ => rfl)) (fun f cdv A outer s H h Q E hr hh hc k => ?_)
  have b1 : 24 ≤ h / 2048 := by rw [hc]; decide
  have b2 : h / 2048 < 26 := by rw [hc]; decide
  refine ⟨_, (@pss_cons _ _ _ _ _ (@ps_set _ _ 1 _ _ _ _ sc_store_list.nd rfl (Or.inl (lk ok_store_list (i := 1) rfl)) (@pe_op _ _ _ _ _ _ _ _ n_and (@pe_op _ _ _ _ _ _ _ _ n_shr (@pvx _ _ _ 0 (.inl (lk ok_store_list (i := 0) rfl)) (nmk nms0 (i := 15) rfl) rfl) (@pn _ 8 _ _)) (@pn _ 7 _ _)) rfl (.inl rfl)) (@pss_cons _ _ _ _ _ (@ps_set _ _ 2 _ _ _ _ sc_store_list.nd rfl (Or.inl (lk ok_store_list (i := 3) rfl)) (@pe_fn _ _ _ _ _ _ _ _ _ _ G_listed (hr.mono (by decide)) (lk ok_store_list (i := 2) rfl) (@pa_cons _ _ _ _ _ (@pe_op _ _ _ _ _ _ _ _ n_and (@pvx _ _ _ 0 (.inl (lk ok_store_list (i := 0) rfl)) (nmk nms0 (i := 15) rfl) rfl) (@pn _ 255 _ _)) (@pa_cons _ _ _ _ _ pe_non pa_nil rfl) rfl) (nmk nms1 (i := 20) rfl).1 rfl rfl) rfl (.inl rfl)) (@pss_cons _ _ _ _ _ (@ps_if _ _ _ _ _ _ _ _ (@PW.pt _ _ _ (@pw_or _ _ _ _ _ _ _ (@pt_cmpR _ _ _ _ _ _ _ _ op_eq (@pe_callB _ _ _ _ _ _ _ _ _ call_len_seq (lk ok_store_list (i := 4) rfl) T.n_len PySem.boot_len (@pa_cons _ _ _ _ _ (@pvx _ _ _ 2 (.inl (lk ok_store_list (i := 3) rfl)) (nmk nms1 (i := 17) rfl) rfl) pa_nil rfl) nn_len (nmk nms0 (i := 0) rfl).1 rfl rfl) (@pn _ 0 _ _) rfl) (@pw_or1 _ _ _ _ (@PW.pt _ _ _ (@pw_and _ _ _ _ _ _ _ (@pt_cmpR _ _ _ _ _ _ _ _ op_in_seq (@pvx _ _ _ 1 (.inl (lk ok_store_list (i := 1) rfl)) (nmk nms0 (i := 23) rfl) rfl) (@pvx _ _ _ 2 (.inl (lk ok_store_list (i := 3) rfl)) (nmk nms1 (i := 17) rfl) rfl) rfl) (@pw_and1 _ _ _ _ (@pt_cmpR _ _ _ _ _ _ _ _ op_ne (@pvx _ _ _ 1 (.inl (lk ok_store_list (i := 1) rfl)) (nmk nms0 (i := 23) rfl) rfl) (@pe_ix _ _ _ _ _ _ _ ix_tup (@pvx _ _ _ 2 (.inl (lk ok_store_list (i := 3) rfl)) (nmk nms1 (i := 17) rfl) rfl) (@pn _ 0 _ _) (fun _ _ => rfl)) rfl))))))) (@pss_one _ _ _ (@ps_ret _ _ _ _ (@pg_ref _ _ _ _ T.c_NONE (lk ok_store_list (i := 5) rfl) (nmk nms0 (i := 14) rfl).1))) pss_nil) (@pss_one _ _ _ (@ps_ret _ _ _ _ (@pe_tup _ _ _ _ _ (@pa_cons _ _ _ _ _ pe_str (@pa_cons _ _ _ _ _ pe_non (@pa_cons _ _ _ _ _ (@pvx _ _ _ 1 (.inl (lk ok_store_list (i := 1) rfl)) (nmk nms0 (i := 23) rfl) rfl) (@pa_cons _ _ _ _ _ pe_non (@pa_cons _ _ _ _ _ (@pvx _ _ _ 2 (.inl (lk ok_store_list (i := 3) rfl)) (nmk nms1 (i := 17) rfl) rfl) (@pa_cons _ _ _ _ _ (@pg_ref _ _ _ _ T.c_WITH_BASE_AND_LIST (lk ok_store_list (i := 6) rfl) (nmk nms2 (i := 0) rfl).1) pa_nil rfl) rfl) rfl) rfl) rfl) rfl))))))), ?_⟩
  refine i7 (is_n (is_var rfl) is_c) _ ?_
  refine do_fn (isa_cons (i255 (is_var rfl)) (isa_cons is_c isa_nil)) ⟨h % 256, 0, _, rfl, low_lt h, fun z => absurd z (low_no h), fun q H1 s1 hq => ?_⟩
  rw [regs_low] at hq
  generalize el : Sd12.listOf (h % 256) = l at hq
  dsimp only [gName]
  show tSeq (tIfS _ _ _) _ _ _ _
  refine ifs (b := decide (l.length = 0) || (l.contains (h / 256 % 8) && decide (h / 256 % 8 ≠ l.headD 0))) (p_orc (fun Q q' => ⟨_, rfl, _, _, rfl, .inr hq, rfl, _, ?_, q'⟩) fun z => p_andc (fun Q q' => ⟨_, rfl, _, rfl, _, _, rfl, .inr hq, rfl, flat_ints l, _, ?_, q'⟩) fun z2 => (fun Q q' => ⟨_, rfl, _, rfl, _, _, _, _, rfl, rfl, hq, atN (i := 0) (v := vN (l.headD 0)) ?_, rfl, _, ?_, q'⟩)) ?_
  · rw [List.length_map]
    exact bN l.length 0
  · show V.bl (inV (vN (h / 256 % 8)) (l.map vN)) = _
    rw [inV_ints]
  · cases l with
    | nil => cases z
    | cons x r => rfl
  · show V.bl (!decide (vN (h / 256 % 8) = vN (l.headD 0))) = _
    rw [show decide (vN (h / 256 % 8) = vN (l.headD 0)) = decide (h / 256 % 8 = l.headD 0) from dec_vN _ _, ← decide_not]
  · refine ite2 (fun c1 => ?_) (fun c1 => ?_)
    · refine fun a' ha' => k a' _ s1 fun nx => ?_
      have c2 : l = [] ∨ (h / 2048 = 24 ∧ l.contains (h / 256 % 8) = true ∧ l.head? ≠ some (h / 256 % 8)) := by
        rw [Bool.or_eq_true, Bool.and_eq_true, decide_eq_true_eq, decide_eq_true_eq] at c1
        rcases c1 with c | ⟨c, d⟩
        · exact .inl (List.length_eq_zero_iff.mp c)
        · refine .inr ⟨hc, c, ?_⟩
          cases l with
          | nil => cases c
          | cons x r =>
            intro e
            exact d (Option.some.inj e).symm
      rw [dec_many b1 b2, el, if_pos c2]
      exact none_at ha'
    · have c2 : ¬ (l = [] ∨ (h / 2048 = 24 ∧ l.contains (h / 256 % 8) = true ∧ l.head? ≠ some (h / 256 % 8))) := by
        intro z
        apply c1
        rw [Bool.or_eq_true, Bool.and_eq_true, decide_eq_true_eq, decide_eq_true_eq]
        rcases z with z | ⟨_, z, z2⟩
        · exact .inl (by rw [z]; rfl)
        · refine .inr ⟨z, ?_⟩
          cases l with
          | nil => cases z
          | cons x r =>
            intro e
            exact z2 (congrArg some e.symm)
      refine ⟨_, rfl, _, rfl, fun a ha => ⟨six, fun p hp => ?_⟩⟩
      refine k p _ (s1.trans (same_upd hp)) fun nx => ins_mkL upd_same (SqT.same (same_upd hp) hq) ha (ops := ["base", "list"]) rfl ?_
      rw [dec_many b1 b2, el, if_neg c2, hc]
      rfl
theorem xs_int {X Y v s : Nat} (h : X + 2 * Y = v + s) : (X : Int) - (s : Int) = (v : Int) - 2 * (Y : Int) := by omega
theorem xor_sub (v s : Nat) : ((v ^^^ s : Nat) : Int) - (s : Int) = (v : Int) - 2 * ((v &&& s : Nat) : Int) := xs_int (xor_and v v s (Nat.le_refl _))
noncomputable def sp_with_sign : Sp := fun vs H Q _ => ∃ v s : Nat, vs = [vN v, vN s] ∧ Q (.int ((v : Int) - 2 * ((v &&& s : Nat) : Int))) H
theorem fn_with_sign (T : Txt K mg) : Fn P w K mg base "with_sign" 1 ["value", "sign_bit"] sp_with_sign := by
  refine T.d_with_sign.fn sc_with_sign (fun _ _ _ _ _ _ => ln2 (fun _ _ => rfl)) (fun vs H Q E h => ?_) (fun f cdv A outer s H vs Q E hr h => ?_)
  · obtain ⟨v, s, rfl, _⟩ := h
    rfl
  obtain ⟨v, s', rfl, k⟩ := h
  refine ⟨_, (@pss_one _ _ _ (@ps_ret _ _ _ _ (@pe_op _ _ _ _ _ _ _ _ op_sub (@pe_op _ _ _ _ _ _ _ _ n_xor (@pvx _ _ _ 0 (.inl (lk ok_with_sign (i := 0) rfl)) (nmk nms0 (i := 12) rfl) rfl) (@pvx _ _ _ 1 (.inl (lk ok_with_sign (i := 1) rfl)) (nmk nms0 (i := 13) rfl) rfl)) (@pvx _ _ _ 1 (.inl (lk ok_with_sign (i := 1) rfl)) (nmk nms0 (i := 13) rfl) rfl)))), ?_⟩
  refine is_i (is_n (is_var rfl) (is_var rfl)) (is_var rfl) _ ?_
  show Q (.int (((v ^^^ s' : Nat) : Int) - (s' : Int))) H
  rw [xor_sub]
  exact k
theorem off_eq (j v : Nat) (hv : v < 2 ^ (j + 1)) : 2 * ((v : Int) - 2 * ((v &&& 2 ^ j : Nat) : Int)) = Sd12.offset (j + 1) v := by
  rw [one_bit]
  unfold Sd12.offset Sd12.bit
  have e : j + 1 - 1 = j := rfl
  rw [e, Int.pow_succ]
  have hp : ((2 : Int) ^ j) = ((2 ^ j : Nat) : Int) := by simp
  rw [hp]
  generalize 2 ^ j = q
  rcases Nat.mod_two_eq_zero_or_one (v / q) with z | z
  · rw [z, if_neg (by decide)]
    omega
  · rw [z, if_pos (by decide)]
    omega
theorem sgn_is {σ : L2.St} {H : Hp} {ta : TA} {v q : Nat} (h : IsA ta σ H [vN v, vN q]) : Is (tFn sp_with_sign ta) σ H (.int ((v : Int) - 2 * ((v &&& q : Nat) : Int))) := is_fn h fun _ z => ⟨v, q, rfl, z⟩
theorem mul2 {z : Int} : CMul ((2 : Nat) : Int) z := .inl ⟨by decide, by decide⟩
theorem fn_branch_if (T : Txt K mg) : Fn P w K mg base "branch_if" 2 ["half"] (sp_dec K fun h => 26 ≤ h / 2048 ∧ h / 2048 < 28) := by
  have G_with_sign := fn_with_sign (P := P) (w := w) (base := base) T
  refine dec_fn T.d_branch_if sc_branch_if (fun _ _ _ _ _ _ => ln1 (fun _ => rfl)) (fun f cdv A outer s H h Q E hr hh hc k => ?_)
  refine ⟨_, (@pss_cons _ _ _ _ _ (@ps_set _ _ 1 _ _ _ _ sc_branch_if.nd rfl (Or.inl (lk ok_branch_if (i := 1) rfl)) (@pe_op _ _ _ _ _ _ _ _ n_and (@pe_op _ _ _ _ _ _ _ _ n_shr (@pvx _ _ _ 0 (.inl (lk ok_branch_if (i := 0) rfl)) (nmk nms0 (i := 15) rfl) rfl) (@pn _ 8 _ _)) (@pn _ 15 _ _)) rfl (.inl rfl)) (@pss_cons _ _ _ _ _ (@ps_if _ _ _ _ _ _ _ _ (@pt_cmpR _ _ _ _ _ _ _ _ op_eq (@pvx _ _ _ 1 (.inl (lk ok_branch_if (i := 1) rfl)) (nmk nms2 (i := 1) rfl) rfl) (@pn _ 14 _ _) rfl) (@pss_one _ _ _ (@ps_ret _ _ _ _ (@pg_ref _ _ _ _ T.c_NONE (lk ok_branch_if (i := 2) rfl) (nmk nms0 (i := 14) rfl).1))) pss_nil) (@pss_cons _ _ _ _ _ (@ps_if _ _ _ _ _ _ _ _ (@pt_cmpR _ _ _ _ _ _ _ _ op_eq (@pvx _ _ _ 1 (.inl (lk ok_branch_if (i := 1) rfl)) (nmk nms2 (i := 1) rfl) rfl) (@pn _ 15 _ _) rfl) (@pss_one _ _ _ (@ps_ret _ _ _ _ (@pe_tup _ _ _ _ _ (@pa_cons _ _ _ _ _ pe_str (@pa_cons _ _ _ _ _ pe_non (@pa_cons _ _ _ _ _ pe_non (@pa_cons _ _ _ _ _ pe_non (@pa_cons _ _ _ _ _ (@pe_op _ _ _ _ _ _ _ _ n_and (@pvx _ _ _ 0 (.inl (lk ok_branch_if (i := 0) rfl)) (nmk nms0 (i := 15) rfl) rfl) (@pn _ 255 _ _)) (@pa_cons _ _ _ _ _ (@pg_ref _ _ _ _ T.c_OF_ONE (lk ok_branch_if (i := 3) rfl) (nmk nms1 (i := 9) rfl).1) pa_nil rfl) rfl) rfl) rfl) rfl) rfl)))) pss_nil) (@pss_one _ _ _ (@ps_ret _ _ _ _ (@pe_tup _ _ _ _ _ (@pa_cons _ _ _ _ _ pe_str (@pa_cons _ _ _ _ _ (@pvx _ _ _ 1 (.inl (lk ok_branch_if (i := 1) rfl)) (nmk nms2 (i := 1) rfl) rfl) (@pa_cons _ _ _ _ _ pe_non (@pa_cons _ _ _ _ _ pe_non (@pa_cons _ _ _ _ _ (@pe_op _ _ _ _ _ _ _ _ op_mul (@pn _ 2 _ _) (@pe_fn _ _ _ _ _ _ _ _ _ _ G_with_sign (hr.mono (by decide)) (lk ok_branch_if (i := 4) rfl) (@pa_cons _ _ _ _ _ (@pe_op _ _ _ _ _ _ _ _ n_and (@pvx _ _ _ 0 (.inl (lk ok_branch_if (i := 0) rfl)) (nmk nms0 (i := 15) rfl) rfl) (@pn _ 255 _ _)) (@pa_cons _ _ _ _ _ (@pn _ 128 _ _) pa_nil rfl) rfl) (nmk nms2 (i := 2) rfl).1 rfl rfl)) (@pa_cons _ _ _ _ _ (@pg_ref _ _ _ _ T.c_WITH_TARGET (lk ok_branch_if (i := 5) rfl) (nmk nms2 (i := 3) rfl).1) pa_nil rfl) rfl) rfl) rfl) rfl) rfl))))))), ?_⟩
  refine i15 (is_n (is_var rfl) is_c) _ ?_
  refine ifsP (p := h / 256 % 16 = 14) (pu_test (is_eqN (is_var rfl) is_c)) (fun c1 => ?_) (fun c1 => ?_)
  · exact ret_none k fun nx => (dec_cond hc.1 hc.2).trans (if_pos c1)
  refine ifsP (p := h / 256 % 16 = 15) (pu_test (is_eqN (is_var rfl) is_c)) (fun c2 => ?_) (fun c2 => ?_)
  · refine ret6 k is_c is_c is_c is_c (i255 (is_var rfl)) ["second"] rfl fun nx => ?_
    rw [dec_cond hc.1 hc.2, if_neg c1, if_pos c2]
    rfl
  · refine ret6 (z := Sd12.offset 8 (h % 256)) k is_c (is_var rfl) is_c is_c (is_eq (is_ic is_c (sgn_is (isa_cons (i255 (is_var rfl)) (isa_cons is_c isa_nil))) mul2) (congrArg V.int (off_eq 7 (h % 256) (Nat.mod_lt _ (by decide))))) ["target"] rfl fun nx => ?_
    rw [dec_cond hc.1 hc.2, if_neg c1, if_neg c2]
    rfl
theorem fn_branch (T : Txt K mg) : Fn P w K mg base "branch" 2 ["half"] (sp_dec K fun h => h / 2048 = 28) := by
  have G_with_sign := fn_with_sign (P := P) (w := w) (base := base) T
  refine dec_fn T.d_branch sc_branch (fun _ _ _ _ _ _ => ln1 (fun _ => rfl)) (fun f cdv A outer s H h Q E hr hh hc k => ?_)
  refine ⟨_, (@pss_one _ _ _ (@ps_ret _ _ _ _ (@pe_tup _ _ _ _ _ (@pa_cons _ _ _ _ _ pe_str (@pa_cons _ _ _ _ _ pe_non (@pa_cons _ _ _ _ _ pe_non (@pa_cons _ _ _ _ _ pe_non (@pa_cons _ _ _ _ _ (@pe_op _ _ _ _ _ _ _ _ op_mul (@pn _ 2 _ _) (@pe_fn _ _ _ _ _ _ _ _ _ _ G_with_sign (hr.mono (by decide)) (lk ok_branch (i := 0) rfl) (@pa_cons _ _ _ _ _ (@pe_op _ _ _ _ _ _ _ _ n_and (@pvx _ _ _ 0 (.inl (lk ok_branch (i := 1) rfl)) (nmk nms0 (i := 15) rfl) rfl) (@pn _ 2047 _ _)) (@pa_cons _ _ _ _ _ (@pn _ 1024 _ _) pa_nil rfl) rfl) (nmk nms2 (i := 2) rfl).1 rfl rfl)) (@pa_cons _ _ _ _ _ (@pg_ref _ _ _ _ T.c_WITH_TARGET (lk ok_branch (i := 2) rfl) (nmk nms2 (i := 3) rfl).1) pa_nil rfl) rfl) rfl) rfl) rfl) rfl)))), ?_⟩
  refine ret6 (z := Sd12.offset 11 (h % 2048)) k is_c is_c is_c is_c (is_eq (is_ic is_c (sgn_is (isa_cons (i2047 (is_var rfl)) (isa_cons is_c isa_nil))) mul2) (congrArg V.int (off_eq 10 (h % 2048) (Nat.mod_lt _ (by decide))))) ["target"] rfl fun nx => ?_
  rw [dec_b hc]
  rfl
end
end Chip

namespace Chip
open PySem L2 LX
section
variable {P : Program} {w : World} {K : PySem.W.Frag} {mg : Str → Option Value} {base : Heap}
theorem or_sum {x y q : Nat} (k : Nat) (e : x = 2 ^ k * q) (hy : y < 2 ^ k) : x ||| y = x + y := by
  subst e
  exact (Nat.two_pow_add_eq_or_of_lt hy q).symm
theorem bit3 (s b : Nat) (hs : s < 2) (hb : b < 2) : (1 ^^^ s) ^^^ b = 1 - (b + s) % 2 := by
  have z : s = 0 ∨ s = 1 := by omega
  have y : b = 0 ∨ b = 1 := by omega
  rcases z with z | z <;> rcases y with y | y <;> subst z <;> subst y <;> rfl
theorem toNat_bit (x : Nat) : Sd12.toNat (x % 2 == 1) = x % 2 := by
  unfold Sd12.toNat
  rcases Nat.mod_two_eq_zero_or_one x with e | e <;> rw [e] <;> rfl
theorem far_eq (h nx : Nat) : far h nx = h / 1024 % 2 * 2 ^ 23 + (1 - (nx / 8192 % 2 + h / 1024 % 2) % 2) * 2 ^ 22 + (1 - (nx / 2048 % 2 + h / 1024 % 2) % 2) * 2 ^ 21 + h % 1024 * 2 ^ 11 + nx % 2048 := by
  unfold far
  rw [toNat_bit, toNat_bit, toNat_bit]
theorem sum_lt {a b c d e : Nat} (ha : a < 2) (hb : b < 2) (hc : c < 2) (hd : d < 1024) (he : e < 2048) : a * 2 ^ 23 + b * 2 ^ 22 + c * 2 ^ 21 + d * 2 ^ 11 + e < 2 ^ 24 := by omega
theorem one_lt (x : Nat) : 1 - x < 2 := Nat.lt_of_le_of_lt (Nat.sub_le _ _) (by decide)
theorem two_lt (x : Nat) : x % 2 < 2 := Nat.mod_lt _ (by decide)
theorem far_lt (h nx : Nat) : far h nx < 2 ^ 24 := by
  rw [far_eq]
  exact sum_lt (two_lt _) (one_lt _) (one_lt _) (Nat.mod_lt _ (by decide)) (Nat.mod_lt _ (by decide))
theorem or_far (a b c d e : Nat) (ha : a < 2) (hb : b < 2) (hc : c < 2) (hd : d < 1024) (he : e < 2048) : a * 2 ^ 23 ||| b * 2 ^ 22 ||| c * 2 ^ 21 ||| d * 2 ^ 11 ||| e = a * 2 ^ 23 + b * 2 ^ 22 + c * 2 ^ 21 + d * 2 ^ 11 + e := by
  rw [or_sum (x := a * 2 ^ 23) (q := a) 23 (Nat.mul_comm _ _) (by omega)]
  rw [or_sum (x := a * 2 ^ 23 + b * 2 ^ 22) (q := 2 * a + b) 22 (by omega) (by omega)]
  rw [or_sum (x := a * 2 ^ 23 + b * 2 ^ 22 + c * 2 ^ 21) (q := 4 * a + 2 * b + c) 21 (by omega) (by omega)]
  rw [or_sum (x := a * 2 ^ 23 + b * 2 ^ 22 + c * 2 ^ 21 + d * 2 ^ 11) (q := a * 2 ^ 12 + b * 2 ^ 11 + c * 2 ^ 10 + d) 11 (by omega) (by omega)]
noncomputable def sp_distance : Sp := fun vs H Q _ => ∃ h nx : Nat, vs = [vN h, vN nx] ∧ ∀ z : Int, 2 * z = Sd12.offset 24 (far h nx) → Q (.int z) H
theorem sm1 {a b : Nat} (ha : a < 2 ^ 64) (hb : b ≤ 1000000) : Sm a b := ⟨ha, hb⟩
theorem i1 {σ : L2.St} {H : Hp} {ta : TE} {x : Nat} (ha : Is ta σ H (vN x)) : Is (tOp (rN fun a b => a &&& b) ta (tC (.int ((1 : Nat) : Int)))) σ H (vN (x % 2)) := is_eq (is_n ha is_c) (congrArg vN (m1 x))
theorem i1023 {σ : L2.St} {H : Hp} {ta : TE} {x : Nat} (ha : Is ta σ H (vN x)) : Is (tOp (rN fun a b => a &&& b) ta (tC (.int ((1023 : Nat) : Int)))) σ H (vN (x % 1024)) := is_eq (is_n ha is_c) (congrArg vN (m1023 x))
theorem ibit {σ : L2.St} {H : Hp} {ta tb : TE} {x y : Nat} (ha : Is ta σ H (vN x)) (hb : Is tb σ H (vN y)) (hx : x < 2) (hy : y < 2) : Is (tOp (rN fun a b => a ^^^ b) (tOp (rN fun a b => a ^^^ b) (tC (.int ((1 : Nat) : Int))) ta) tb) σ H (vN (1 - (y + x) % 2)) :=
  is_eq (is_n (is_n is_c ha) hb) (congrArg vN (bit3 x y hx hy))
theorem fn_distance (T : Txt K mg) : Fn P w K mg base "distance" 2 ["first", "second"] sp_distance := by
  have G_with_sign := fn_with_sign (P := P) (w := w) (base := base) T
  refine T.d_distance.fn sc_distance (fun _ _ _ _ _ _ => ln2 (fun _ _ => rfl)) (fun vs H Q E h => ?_) (fun f cdv A outer s H vs Q E hr h => ?_)
  · obtain ⟨v, s, rfl, _⟩ := h
    rfl
  obtain ⟨h, nx, rfl, k⟩ := h
  refine ⟨_, (@pss_cons _ _ _ _ _ (@ps_set _ _ 2 _ _ _ _ sc_distance.nd rfl (Or.inl (lk ok_distance (i := 1) rfl)) (@pe_op _ _ _ _ _ _ _ _ n_and (@pe_op _ _ _ _ _ _ _ _ n_shr (@pvx _ _ _ 0 (.inl (lk ok_distance (i := 0) rfl)) (nmk nms2 (i := 4) rfl) rfl) (@pn _ 10 _ _)) (@pn _ 1 _ _)) rfl (.inl rfl)) (@pss_cons _ _ _ _ _ (@ps_set _ _ 3 _ _ _ _ sc_distance.nd rfl (Or.inl (lk ok_distance (i := 3) rfl)) (@pe_op _ _ _ _ _ _ _ _ n_xor (@pe_op _ _ _ _ _ _ _ _ n_xor (@pn _ 1 _ _) (@pvx _ _ _ 2 (.inl (lk ok_distance (i := 1) rfl)) (nmk nms2 (i := 7) rfl) rfl)) (@pe_op _ _ _ _ _ _ _ _ n_and (@pe_op _ _ _ _ _ _ _ _ n_shr (@pvx _ _ _ 1 (.inl (lk ok_distance (i := 2) rfl)) (nmk nms2 (i := 5) rfl) rfl) (@pn _ 13 _ _)) (@pn _ 1 _ _))) rfl (.inl rfl)) (@pss_cons _ _ _ _ _ (@ps_set _ _ 4 _ _ _ _ sc_distance.nd rfl (Or.inl (lk ok_distance (i := 4) rfl)) (@pe_op _ _ _ _ _ _ _ _ n_xor (@pe_op _ _ _ _ _ _ _ _ n_xor (@pn _ 1 _ _) (@pvx _ _ _ 2 (.inl (lk ok_distance (i := 1) rfl)) (nmk nms2 (i := 7) rfl) rfl)) (@pe_op _ _ _ _ _ _ _ _ n_and (@pe_op _ _ _ _ _ _ _ _ n_shr (@pvx _ _ _ 1 (.inl (lk ok_distance (i := 2) rfl)) (nmk nms2 (i := 5) rfl) rfl) (@pn _ 11 _ _)) (@pn _ 1 _ _))) rfl (.inl rfl)) (@pss_cons _ _ _ _ _ (@ps_set _ _ 5 _ _ _ _ sc_distance.nd rfl (Or.inl (lk ok_distance (i := 5) rfl)) (@pe_op _ _ _ _ _ _ _ _ n_or (@pe_op _ _ _ _ _ _ _ _ n_or (@pe_op _ _ _ _ _ _ _ _ n_or (@pe_op _ _ _ _ _ _ _ _ n_or (@pe_op _ _ _ _ _ _ _ _ n_shl (@pvx _ _ _ 2 (.inl (lk ok_distance (i := 1) rfl)) (nmk nms2 (i := 7) rfl) rfl) (@pn _ 23 _ _)) (@pe_op _ _ _ _ _ _ _ _ n_shl (@pvx _ _ _ 3 (.inl (lk ok_distance (i := 3) rfl)) (nmk nms2 (i := 8) rfl) rfl) (@pn _ 22 _ _))) (@pe_op _ _ _ _ _ _ _ _ n_shl (@pvx _ _ _ 4 (.inl (lk ok_distance (i := 4) rfl)) (nmk nms2 (i := 9) rfl) rfl) (@pn _ 21 _ _))) (@pe_op _ _ _ _ _ _ _ _ n_shl (@pe_op _ _ _ _ _ _ _ _ n_and (@pvx _ _ _ 0 (.inl (lk ok_distance (i := 0) rfl)) (nmk nms2 (i := 4) rfl) rfl) (@pn _ 1023 _ _)) (@pn _ 11 _ _))) (@pe_op _ _ _ _ _ _ _ _ n_and (@pvx _ _ _ 1 (.inl (lk ok_distance (i := 2) rfl)) (nmk nms2 (i := 5) rfl) rfl) (@pn _ 2047 _ _))) rfl (.inl rfl)) (@pss_one _ _ _ (@ps_ret _ _ _ _ (@pe_fn _ _ _ _ _ _ _ _ _ _ G_with_sign (hr.mono (by decide)) (lk ok_distance (i := 6) rfl) (@pa_cons _ _ _ _ _ (@pvx _ _ _ 5 (.inl (lk ok_distance (i := 5) rfl)) (nmk nms2 (i := 10) rfl) rfl) (@pa_cons _ _ _ _ _ (@pn _ 8388608 _ _) pa_nil rfl) rfl) (nmk nms2 (i := 2) rfl).1 rfl rfl))))))), ?_⟩
  refine i1 (is_n (is_var rfl) is_c) _ ?_
  refine ibit (is_var rfl) (i1 (is_n (is_var rfl) is_c)) (two_lt _) (two_lt _) _ ?_
  refine ibit (is_var rfl) (i1 (is_n (is_var rfl) is_c)) (two_lt _) (two_lt _) _ ?_
  refine is_n (is_n (is_n (is_n (is_nc (is_var rfl) is_c ?_) (is_nc (is_var rfl) is_c ?_)) (is_nc (is_var rfl) is_c ?_)) (is_nc (i1023 (is_var rfl)) is_c ?_)) (i2047 (is_var rfl)) _ ?_
  · exact sm1 (Nat.lt_trans (two_lt _) (by decide)) (by decide)
  · exact sm1 (Nat.lt_trans (one_lt _) (by decide)) (by decide)
  · exact sm1 (Nat.lt_trans (one_lt _) (by decide)) (by decide)
  · exact sm1 (Nat.lt_trans (Nat.mod_lt _ (by decide : 0 < 1024)) (by decide)) (by decide)
  have eN := (or_far (h / 1024 % 2) (1 - (nx / 8192 % 2 + h / 1024 % 2) % 2) (1 - (nx / 2048 % 2 + h / 1024 % 2) % 2) (h % 1024) (nx % 2048) (two_lt _) (one_lt _) (one_lt _) (Nat.mod_lt _ (by decide)) (Nat.mod_lt _ (by decide))).trans (far_eq h nx).symm
  refine do_fn (isa_cons (is_eq (is_var rfl) (congrArg vN eN)) (isa_cons is_c isa_nil)) ⟨far h nx, 8388608, rfl, k _ ?_⟩
  exact off_eq 23 (far h nx) (far_lt h nx)
noncomputable def sp_wide (K : PySem.W.Frag) : Sp := fun vs H Q _ => ∃ h nx : Nat, vs = [vN h, vN nx] ∧ h < 65536 ∧ nx < 65536 ∧ h / 2048 = 30 ∧ ∀ p H', Same H H' → InsAt K H' p (abOf (Sd12.decode h nx)) → Q (.ref p) H'
theorem and_high (x m k : Nat) : x &&& m * 2 ^ k = (x / 2 ^ k &&& m) * 2 ^ k := by
  apply Nat.eq_of_testBit_eq
  intro i
  rw [Nat.testBit_and, Nat.testBit_mul_two_pow, Nat.testBit_mul_two_pow, Nat.testBit_and, Nat.testBit_div_two_pow]
  by_cases l : k ≤ i
  · rw [decide_eq_true l, Bool.true_and, Bool.true_and, Nat.sub_add_cancel l]
  · rw [decide_eq_false l, Bool.false_and, Bool.false_and, Bool.and_false]
theorem and_bits (nx : Nat) (h : nx < 65536) : (nx &&& 53248 = 53248) ↔ (nx / 16384 % 4 = 3 ∧ nx / 4096 % 2 = 1) := by
  have e : nx &&& 53248 = (nx / 4096 &&& 13) * 4096 := and_high nx 13 12
  rw [e, ← Nat.div_div_eq_div_mul nx 4096 4]
  exact (by decide +kernel : ∀ t : _root_.Fin 16, (t.1 &&& 13) * 4096 = 53248 ↔ (t.1 / 4 % 4 = 3 ∧ t.1 % 2 = 1)) ⟨nx / 4096, Nat.div_lt_of_lt_mul h⟩
theorem barrier_no {nx : Nat} (h : nx / 16 = 0x8F4 ∨ nx / 16 = 0x8F5 ∨ nx / 16 = 0x8F6) : ¬ (nx / 16384 % 4 = 3 ∧ nx / 4096 % 2 = 1) := fun z => by
  have q := z.1
  rw [← Nat.div_div_eq_div_mul nx 16 1024] at q
  rcases h with e | e | e <;> rw [e] at q <;> exact absurd q (by decide)
theorem fn_wide (T : Txt K mg) : Fn P w K mg base "wide" 3 ["first", "second"] (sp_wide K) := by
  have G_distance := fn_distance (P := P) (w := w) (base := base) T
  refine T.d_wide.fn sc_wide (fun _ _ _ _ _ _ => ln2 (fun _ _ => rfl)) (fun vs H Q E h => ?_) (fun f cdv A outer s H vs Q E hr h => ?_)
  · obtain ⟨v, s, rfl, _⟩ := h
    rfl
  obtain ⟨h, nx, rfl, hh, hn, hc, k⟩ := h
  refine ⟨_, (@pss_cons _ _ _ _ _ (@ps_if _ _ _ _ _ _ _ _ (@PW.pt _ _ _ (@pw_and _ _ _ _ _ _ _ (@pt_cmpR _ _ _ _ _ _ _ _ op_eq (@pvx _ _ _ 0 (.inl (lk ok_wide (i := 0) rfl)) (nmk nms2 (i := 4) rfl) rfl) (@pn _ 62399 _ _) rfl) (@pw_and1 _ _ _ _ (@pt_cmpR _ _ _ _ _ _ _ _ op_in_seq (@pe_op _ _ _ _ _ _ _ _ n_shr (@pvx _ _ _ 1 (.inl (lk ok_wide (i := 1) rfl)) (nmk nms2 (i := 5) rfl) rfl) (@pn _ 4 _ _)) (@pe_tup _ _ _ _ _ (@pa_cons _ _ _ _ _ (@pn _ 2292 _ _) (@pa_cons _ _ _ _ _ (@pn _ 2293 _ _) (@pa_cons _ _ _ _ _ (@pn _ 2294 _ _) pa_nil rfl) rfl) rfl)) rfl)))) (@pss_one _ _ _ (@ps_ret _ _ _ _ (@pe_tup _ _ _ _ _ (@pa_cons _ _ _ _ _ pe_str (@pa_cons _ _ _ _ _ pe_non (@pa_cons _ _ _ _ _ pe_non (@pa_cons _ _ _ _ _ pe_non (@pa_cons _ _ _ _ _ (@pn _ 0 _ _) (@pa_cons _ _ _ _ _ (@pg_ref _ _ _ _ T.c_ALONE (lk ok_wide (i := 2) rfl) (nmk nms1 (i := 22) rfl).1) pa_nil rfl) rfl) rfl) rfl) rfl) rfl)))) pss_nil) (@pss_cons _ _ _ _ _ (@ps_if _ _ _ _ _ _ _ _ (@pt_cmpR _ _ _ _ _ _ _ _ op_eq (@pe_op _ _ _ _ _ _ _ _ n_and (@pvx _ _ _ 1 (.inl (lk ok_wide (i := 1) rfl)) (nmk nms2 (i := 5) rfl) rfl) (@pn _ 53248 _ _)) (@pn _ 53248 _ _) rfl) (@pss_one _ _ _ (@ps_ret _ _ _ _ (@pe_tup _ _ _ _ _ (@pa_cons _ _ _ _ _ pe_str (@pa_cons _ _ _ _ _ pe_non (@pa_cons _ _ _ _ _ pe_non (@pa_cons _ _ _ _ _ pe_non (@pa_cons _ _ _ _ _ (@pe_op _ _ _ _ _ _ _ _ op_mul (@pn _ 2 _ _) (@pe_fn _ _ _ _ _ _ _ _ _ _ G_distance (hr.mono (by decide)) (lk ok_wide (i := 3) rfl) (@pa_cons _ _ _ _ _ (@pvx _ _ _ 0 (.inl (lk ok_wide (i := 0) rfl)) (nmk nms2 (i := 4) rfl) rfl) (@pa_cons _ _ _ _ _ (@pvx _ _ _ 1 (.inl (lk ok_wide (i := 1) rfl)) (nmk nms2 (i := 5) rfl) rfl) pa_nil rfl) rfl) (nmk nms2 (i := 6) rfl).1 rfl rfl)) (@pa_cons _ _ _ _ _ (@pg_ref _ _ _ _ T.c_WITH_TARGET (lk ok_wide (i := 4) rfl) (nmk nms2 (i := 3) rfl).1) pa_nil rfl) rfl) rfl) rfl) rfl) rfl)))) pss_nil) (@pss_one _ _ _ (@ps_ret _ _ _ _ (@pg_ref _ _ _ _ T.c_NONE (lk ok_wide (i := 5) rfl) (nmk nms0 (i := 14) rfl).1))))), ?_⟩
  show tSeq (tIfS _ _ _) _ _ _ _
  refine ifsG (b := decide (h = 0xF3BF) && decide (nx / 16 = 0x8F4 ∨ nx / 16 = 0x8F5 ∨ nx / 16 = 0x8F6)) ?_ fun H1 s1 => ?_
  · refine g_andc (Pure.grow ?_) fun H1 s1 _ => ?_
    · intro Q q
      exact ⟨_, rfl, rfl, _, bN h 0xF3BF, q⟩
    · intro Q q
      refine ⟨_, rfl, _, _, rfl, rfl, by show 3 ≤ sizeLine; decide, fun p hp => ?_⟩
      refine ⟨_, _, rfl, .inr (.of upd_same), rfl, flat_ints [2292, 2293, 2294], _, ?_, q _ (same_upd hp)⟩
      show V.bl (inV (vN (nx / 16)) ([2292, 2293, 2294].map vN)) = _
      rw [inV_ints]
      congr 1
      rw [Bool.eq_iff_iff, List.contains_iff_mem]
      simp
  · refine ite2 (fun c1 => ?_) (fun c1 => ?_)
    · rw [Bool.and_eq_true, decide_eq_true_eq, decide_eq_true_eq] at c1
      refine fun a ha => ⟨six, fun p hp => ?_⟩
      refine k p _ (s1.trans (same_upd hp)) (ins_mk upd_same ha (ops := []) rfl ?_)
      rw [dec_wide hc, if_neg (barrier_no c1.2), if_pos c1]
      rfl
    · rw [Bool.and_eq_true, decide_eq_true_eq, decide_eq_true_eq] at c1
      have eb : V.bl (decide (V.int ((nx &&& 53248 : Nat) : Int) = V.int ((53248 : Nat) : Int))) = V.bl (decide (nx / 16384 % 4 = 3 ∧ nx / 4096 % 2 = 1)) := (bN _ _).trans (congrArg V.bl (decide_eq_decide.mpr (and_bits nx hn)))
      refine ⟨_, rfl, _, _, rfl, rfl, rfl, _, eb, ?_⟩
      refine ite2 (fun c2 => ?_) (fun c2 => ?_)
      · rw [decide_eq_true_eq] at c2
        refine ⟨_, rfl, _, rfl, h, nx, rfl, fun z ez => ?_⟩
        refine ⟨_, _, rfl, rfl, .inl ⟨by decide, by decide⟩, fun a ha => ⟨six, fun p hp => ?_⟩⟩
        refine k p _ (s1.trans (same_upd hp)) (ins_mk upd_same ha (ops := ["target"]) rfl ?_)
        rw [dec_wide hc, if_pos c2]
        show _ = (⟨"bl", .non, .non, .non, .inl (2 * z), ["target"]⟩ : Ab)
        rw [ez]
        rfl
      · rw [decide_eq_true_eq] at c2
        refine fun a' ha' => k a' _ s1 ?_
        rw [dec_wide hc, if_neg c2, if_neg c1]
        exact none_at ha'
theorem at_paired {α β : Type} {R : α → β → Prop} : ∀ {l : List α} {m : List β}, Paired R l m → ∀ {i : Nat} {y : β}, m[i]? = some y → ∃ x, l[i]? = some x ∧ R x y
  | _, _, .nil, i, y, e => by simp at e
  | _, _, .cons r t, 0, y, e => by
    simp at e
    subst e
    exact ⟨_, rfl, r⟩
  | _, _, .cons r t, i + 1, y, e => by
    obtain ⟨x, h1, h2⟩ := at_paired t (i := i) (y := y) (by simpa using e)
    exact ⟨x, by simpa using h1, h2⟩
theorem map_ref {fs : List Addr} {i : Nat} {f : Addr} (h : fs[i]? = some f) : (fs.map V.ref)[i]? = some (.ref f) := by
  rw [List.getElem?_map, h]
  rfl
noncomputable def oddNames : List Str := ["stack_pointer", "no_instruction", "extension", "no_instruction", "push_list", "push_list", "no_instruction", "no_instruction", "no_instruction", "no_instruction", "turned_bytes", "no_instruction", "pop_list", "pop_list", "bkpt", "hint"]
theorem nek {a m n : Nat} (c : a = m) (h : m ≠ n) : ¬ a = n := fun e => h (c.symm.trans e)
theorem pick_odd (T : Txt K mg) {h : Nat} (hc : oddAt h) : ∃ x pre, oddNames[h / 256 % 16]? = some x ∧ Fn P w K mg base x 2 ["half"] (sp_dec K pre) ∧ pre h := by
  have z : h / 256 % 16 < 16 := Nat.mod_lt _ (by decide)
  have no : ∀ nx, ¬ h / 256 % 16 = 0 → ¬ h / 256 % 16 = 2 → ¬ h / 256 % 16 = 4 → ¬ h / 256 % 16 = 5 → ¬ h / 256 % 16 = 12 → ¬ h / 256 % 16 = 13 → ¬ h / 256 % 16 = 10 → ¬ h / 256 % 16 = 14 → ¬ h / 256 % 16 = 15 → Sd12.decode h nx = none := by
    intro nx a0 a2 a4 a5 a12 a13 a10 a14 a15
    rw [dec_odd hc.1 hc.2, if_neg a0, if_neg a2, if_neg (fun z => z.elim a4 a5), if_neg (fun z => z.elim a12 a13), if_neg a10, if_neg a14, if_neg (fun z => a15 z.1)]
  have fno := (fn_no_instruction (P := P) (w := w) (base := base) T).mono (k := 2) (by decide)
  have cs := (by decide +kernel : ∀ t : _root_.Fin 16, t.1 = 0 ∨ t.1 = 1 ∨ t.1 = 2 ∨ t.1 = 3 ∨ t.1 = 4 ∨ t.1 = 5 ∨ t.1 = 6 ∨ t.1 = 7 ∨ t.1 = 8 ∨ t.1 = 9 ∨ t.1 = 10 ∨ t.1 = 11 ∨ t.1 = 12 ∨ t.1 = 13 ∨ t.1 = 14 ∨ t.1 = 15) ⟨h / 256 % 16, z⟩
  dsimp only at cs
  rcases cs with c | c | c | c | c | c | c | c | c | c | c | c | c | c | c | c <;> (have c' := c; rw [c])
  · exact ⟨_, _, rfl, (fn_stack_pointer T).mono (by decide), hc, c'⟩
  · exact ⟨_, _, rfl, fno, fun nx => no nx (nek c' (by decide)) (nek c' (by decide)) (nek c' (by decide)) (nek c' (by decide)) (nek c' (by decide)) (nek c' (by decide)) (nek c' (by decide)) (nek c' (by decide)) (nek c' (by decide))⟩
  · exact ⟨_, _, rfl, (fn_extension T).mono (by decide), hc, c'⟩
  · exact ⟨_, _, rfl, fno, fun nx => no nx (nek c' (by decide)) (nek c' (by decide)) (nek c' (by decide)) (nek c' (by decide)) (nek c' (by decide)) (nek c' (by decide)) (nek c' (by decide)) (nek c' (by decide)) (nek c' (by decide))⟩
  · exact ⟨_, _, rfl, fn_push_list T, hc, .inl c'⟩
  · exact ⟨_, _, rfl, fn_push_list T, hc, .inr c'⟩
  · exact ⟨_, _, rfl, fno, fun nx => no nx (nek c' (by decide)) (nek c' (by decide)) (nek c' (by decide)) (nek c' (by decide)) (nek c' (by decide)) (nek c' (by decide)) (nek c' (by decide)) (nek c' (by decide)) (nek c' (by decide))⟩
  · exact ⟨_, _, rfl, fno, fun nx => no nx (nek c' (by decide)) (nek c' (by decide)) (nek c' (by decide)) (nek c' (by decide)) (nek c' (by decide)) (nek c' (by decide)) (nek c' (by decide)) (nek c' (by decide)) (nek c' (by decide))⟩
  · exact ⟨_, _, rfl, fno, fun nx => no nx (nek c' (by decide)) (nek c' (by decide)) (nek c' (by decide)) (nek c' (by decide)) (nek c' (by decide)) (nek c' (by decide)) (nek c' (by decide)) (nek c' (by decide)) (nek c' (by decide))⟩
  · exact ⟨_, _, rfl, fno, fun nx => no nx (nek c' (by decide)) (nek c' (by decide)) (nek c' (by decide)) (nek c' (by decide)) (nek c' (by decide)) (nek c' (by decide)) (nek c' (by decide)) (nek c' (by decide)) (nek c' (by decide))⟩
  · exact ⟨_, _, rfl, (fn_turned_bytes T).mono (by decide), hc, c'⟩
  · exact ⟨_, _, rfl, fno, fun nx => no nx (nek c' (by decide)) (nek c' (by decide)) (nek c' (by decide)) (nek c' (by decide)) (nek c' (by decide)) (nek c' (by decide)) (nek c' (by decide)) (nek c' (by decide)) (nek c' (by decide))⟩
  · exact ⟨_, _, rfl, fn_pop_list T, hc, .inl c'⟩
  · exact ⟨_, _, rfl, fn_pop_list T, hc, .inr c'⟩
  · exact ⟨_, _, rfl, (fn_bkpt T).mono (by decide), hc, c'⟩
  · exact ⟨_, _, rfl, (fn_hint T).mono (by decide), hc, c'⟩
theorem fn_odds (T : Txt K mg) : Fn P w K mg base "odds" 3 ["half"] (sp_dec K oddAt) := by
  refine T.d_odds.fn sc_odds (fun _ _ _ _ _ _ => ln1 (fun _ => rfl)) (fun vs H Q E h => dec_len h) (fun f cdv A outer s H vs Q E hr h => ?_)
  obtain ⟨h, rfl, hh, hc, k⟩ := h
  refine ⟨_, (@pss_one _ _ _ (@ps_ret _ _ _ _ (@pe_dyn _ 2 _ _ _ _ _ _ (@pe_ix _ _ _ _ _ _ _ ix_tup (@pg_ref _ _ _ _ T.c_ODDS (lk ok_odds (i := 0) rfl) (nmk nms1 (i := 23) rfl).1) (@pe_op _ _ _ _ _ _ _ _ n_and (@pe_op _ _ _ _ _ _ _ _ n_shr (@pvx _ _ _ 0 (.inl (lk ok_odds (i := 1) rfl)) (nmk nms0 (i := 15) rfl) rfl) (@pn _ 8 _ _)) (@pn _ 15 _ _)) (fun _ _ => rfl)) (hr.mono (by decide)) (@pa_cons _ _ _ _ _ (@pvx _ _ _ 0 (.inl (lk ok_odds (i := 1) rfl)) (nmk nms0 (i := 15) rfl) rfl) pa_nil rfl) rfl rfl rfl))), ?_⟩
  obtain ⟨x, pre, hx, F, hp⟩ := pick_odd (P := P) (w := w) (base := base) T hc
  refine fun a ha => ⟨_, rfl, _, _, rfl, rfl, _, _, rfl, rfl, ?_⟩
  obtain ⟨fs, hk, hm⟩ := ha
  obtain ⟨g, hg, hmg⟩ := at_paired hm hx
  refine ⟨_, _, ((h / 256 % 16 : Nat) : Int), _, rfl, congrArg vN (m15 _), hk.sq, atN (map_ref hg), g, _, rfl, ⟨_, F.can hmg⟩, ?_⟩
  exact ⟨_, rfl, h, rfl, hh, hp, k⟩
noncomputable def topNames : List Str := ["shift_by_number", "shift_by_number", "shift_by_number", "sum_of_three", "with_byte", "with_byte", "with_byte", "with_byte", "with_registers", "load_from_program", "move_by_register", "move_by_register", "move_by_number", "move_by_number", "move_by_number", "move_by_number", "move_by_number", "move_by_number", "move_on_stack", "move_on_stack", "place_in_program", "place_on_stack", "odds", "odds", "store_list", "load_list", "branch_if", "branch_if", "branch", "no_instruction", "no_instruction", "no_instruction"]
theorem pick_top (T : Txt K mg) {h : Nat} (hh : h < 65536) (hc : h / 2048 ≠ 30) : ∃ x pre, topNames[h / 2048]? = some x ∧ Fn P w K mg base x 3 ["half"] (sp_dec K pre) ∧ pre h := by
  have cs := (by decide +kernel : ∀ t : _root_.Fin 32, t.1 ≠ 30 → (t.1 = 0 ∨ t.1 = 1 ∨ t.1 = 2 ∨ t.1 = 3 ∨ t.1 = 4 ∨ t.1 = 5 ∨ t.1 = 6 ∨ t.1 = 7 ∨ t.1 = 8 ∨ t.1 = 9 ∨ t.1 = 10 ∨ t.1 = 11 ∨ t.1 = 12 ∨ t.1 = 13 ∨ t.1 = 14 ∨ t.1 = 15 ∨ t.1 = 16 ∨ t.1 = 17 ∨ t.1 = 18 ∨ t.1 = 19 ∨ t.1 = 20 ∨ t.1 = 21 ∨ t.1 = 22 ∨ t.1 = 23 ∨ t.1 = 24 ∨ t.1 = 25 ∨ t.1 = 26 ∨ t.1 = 27 ∨ t.1 = 28 ∨ t.1 = 29 ∨ t.1 = 31)) ⟨h / 2048, Nat.div_lt_of_lt_mul hh⟩ hc
  dsimp only at cs
  rcases cs with c | c | c | c | c | c | c | c | c | c | c | c | c | c | c | c | c | c | c | c | c | c | c | c | c | c | c | c | c | c | c <;> (have c' := c; rw [c])
  · exact ⟨_, _, rfl, (fn_shift_by_number T).mono (by decide), by rw [c']; decide⟩
  · exact ⟨_, _, rfl, (fn_shift_by_number T).mono (by decide), by rw [c']; decide⟩
  · exact ⟨_, _, rfl, (fn_shift_by_number T).mono (by decide), by rw [c']; decide⟩
  · exact ⟨_, _, rfl, (fn_sum_of_three T).mono (by decide), c'⟩
  · exact ⟨_, _, rfl, (fn_with_byte T).mono (by decide), by rw [c']; decide⟩
  · exact ⟨_, _, rfl, (fn_with_byte T).mono (by decide), by rw [c']; decide⟩
  · exact ⟨_, _, rfl, (fn_with_byte T).mono (by decide), by rw [c']; decide⟩
  · exact ⟨_, _, rfl, (fn_with_byte T).mono (by decide), by rw [c']; decide⟩
  · exact ⟨_, _, rfl, fn_with_registers T, c'⟩
  · exact ⟨_, _, rfl, (fn_load_from_program T).mono (by decide), c'⟩
  · exact ⟨_, _, rfl, (fn_move_by_register T).mono (by decide), by rw [c']; decide⟩
  · exact ⟨_, _, rfl, (fn_move_by_register T).mono (by decide), by rw [c']; decide⟩
  · exact ⟨_, _, rfl, (fn_move_by_number T).mono (by decide), by rw [c']; decide⟩
  · exact ⟨_, _, rfl, (fn_move_by_number T).mono (by decide), by rw [c']; decide⟩
  · exact ⟨_, _, rfl, (fn_move_by_number T).mono (by decide), by rw [c']; decide⟩
  · exact ⟨_, _, rfl, (fn_move_by_number T).mono (by decide), by rw [c']; decide⟩
  · exact ⟨_, _, rfl, (fn_move_by_number T).mono (by decide), by rw [c']; decide⟩
  · exact ⟨_, _, rfl, (fn_move_by_number T).mono (by decide), by rw [c']; decide⟩
  · exact ⟨_, _, rfl, (fn_move_on_stack T).mono (by decide), by rw [c']; decide⟩
  · exact ⟨_, _, rfl, (fn_move_on_stack T).mono (by decide), by rw [c']; decide⟩
  · exact ⟨_, _, rfl, (fn_place_in_program T).mono (by decide), c'⟩
  · exact ⟨_, _, rfl, (fn_place_on_stack T).mono (by decide), c'⟩
  · exact ⟨_, _, rfl, fn_odds T, by rw [c']; decide, by rw [c']; decide⟩
  · exact ⟨_, _, rfl, fn_odds T, by rw [c']; decide, by rw [c']; decide⟩
  · exact ⟨_, _, rfl, (fn_store_list T).mono (by decide), c'⟩
  · exact ⟨_, _, rfl, (fn_load_list T).mono (by decide), c'⟩
  · exact ⟨_, _, rfl, (fn_branch_if T).mono (by decide), by rw [c']; decide⟩
  · exact ⟨_, _, rfl, (fn_branch_if T).mono (by decide), by rw [c']; decide⟩
  · exact ⟨_, _, rfl, (fn_branch T).mono (by decide), c'⟩
  · exact ⟨_, _, rfl, (fn_no_instruction T).mono (by decide), fun nx => dec_no hh (.inl c')⟩
  · exact ⟨_, _, rfl, (fn_no_instruction T).mono (by decide), fun nx => dec_no hh (.inr c')⟩
noncomputable def sp_is_first_half : Sp := fun vs H Q _ => ∃ h : Nat, vs = [vN h] ∧ Q (.bl (decide (h / 2048 = 30))) H
theorem fn_is_first_half (T : Txt K mg) : Fn P w K mg base "is_first_half" 1 ["half"] sp_is_first_half := by
  refine T.d_is_first_half.fn sc_is_first_half (fun _ _ _ _ _ _ => ln1 (fun _ => rfl)) (fun vs H Q E h => ?_) (fun f cdv A outer s H vs Q E hr h => ?_)
  · obtain ⟨v, rfl, _⟩ := h
    rfl
  obtain ⟨h, rfl, k⟩ := h
  refine ⟨_, (@pss_one _ _ _ (@ps_ret _ _ _ _ (@pe_cmpR _ _ _ _ _ _ _ _ op_eq (@pe_op _ _ _ _ _ _ _ _ n_shr (@pvx _ _ _ 0 (.inl (lk ok_is_first_half (i := 0) rfl)) (nmk nms0 (i := 15) rfl) rfl) (@pn _ 11 _ _)) (@pg_int _ _ _ _ T.c_WIDE (lk ok_is_first_half (i := 1) rfl) (nmk nms2 (i := 11) rfl).1) rfl))), ?_⟩
  exact is_eqN (is_n (is_var rfl) is_c) is_c _ k
noncomputable def insAt (m : List Nat) (p : Nat) : Option Sd12.Ins := Sd12.decode (half m p) (if p + 4 ≤ 65536 then half m (p + 2) else 0)
theorem half_lt {m : List Nat} (h : ∀ x ∈ m, x < 256) (p : Nat) : half m p < 65536 := by
  unfold half
  have h1 := getD_lt h p
  have h2 := getD_lt h (p + 1)
  omega
noncomputable def sp_instruction_at (K : PySem.W.Frag) : Sp := fun vs H Q _ => ∃ (a : Addr) (m : List Nat) (p : Nat), vs = [.ref a, vN p] ∧ SqL K H a (m.map vN) ∧ (∀ x ∈ m, x < 256) ∧ m.length = 65536 ∧ p + 2 ≤ 65536 ∧
  ∀ q H', Same H H' → InsAt K H' q (abOf (insAt m p)) → (half m p / 2048 ≠ 30 → ∀ nx, InsAt K H' q (abOf (Sd12.decode (half m p) nx))) → Q (.ref q) H'
theorem fn_instruction_at (T : Txt K mg) : Fn P w K mg base "instruction_at" 4 ["memory", "place"] (sp_instruction_at K) := by
  have G_half_at := fn_half_at (P := P) (w := w) (base := base) T
  have G_is_first_half := fn_is_first_half (P := P) (w := w) (base := base) T
  have G_wide := fn_wide (P := P) (w := w) (base := base) T
  refine T.d_instruction_at.fn sc_instruction_at (fun _ _ _ _ _ _ => ln2 (fun _ _ => rfl)) (fun vs H Q E h => ?_) (fun f cdv A outer s H vs Q E hr h => ?_)
  · obtain ⟨a, m, p, rfl, _⟩ := h
    rfl
  obtain ⟨a, m, p, rfl, hS, hb, hl, hp, k⟩ := h
  refine ⟨_, (@pss_cons _ _ _ _ _ (@ps_set _ _ 2 _ _ _ _ sc_instruction_at.nd rfl (Or.inl (lk ok_instruction_at (i := 3) rfl)) (@pe_fn _ _ _ _ _ _ _ _ _ _ G_half_at (hr.mono (by decide)) (lk ok_instruction_at (i := 0) rfl) (@pa_cons _ _ _ _ _ (@pvx _ _ _ 0 (.inl (lk ok_instruction_at (i := 1) rfl)) (nmk nms0 (i := 9) rfl) rfl) (@pa_cons _ _ _ _ _ (@pvx _ _ _ 1 (.inl (lk ok_instruction_at (i := 2) rfl)) (nmk nms0 (i := 11) rfl) rfl) pa_nil rfl) rfl) (nmk nms2 (i := 12) rfl).1 rfl rfl) rfl (.inl rfl)) (@pss_cons _ _ _ _ _ (@ps_if _ _ _ _ _ _ _ _ (@pt_not _ _ _ _ (@pt_val _ _ _ (@pe_fn _ _ _ _ _ _ _ _ _ _ G_is_first_half (hr.mono (by decide)) (lk ok_instruction_at (i := 4) rfl) (@pa_cons _ _ _ _ _ (@pvx _ _ _ 2 (.inl (lk ok_instruction_at (i := 3) rfl)) (nmk nms0 (i := 15) rfl) rfl) pa_nil rfl) (nmk nms2 (i := 13) rfl).1 rfl rfl) (by intro _; rfl))) (@pss_one _ _ _ (@ps_ret _ _ _ _ (@pe_dyn _ 3 _ _ _ _ _ _ (@pe_ix _ _ _ _ _ _ _ ix_tup (@pg_ref _ _ _ _ T.c_BY_HIGHEST_BITS (lk ok_instruction_at (i := 5) rfl) (nmk nms2 (i := 14) rfl).1) (@pe_op _ _ _ _ _ _ _ _ n_shr (@pvx _ _ _ 2 (.inl (lk ok_instruction_at (i := 3) rfl)) (nmk nms0 (i := 15) rfl) rfl) (@pn _ 11 _ _)) (fun _ _ => rfl)) (hr.mono (by decide)) (@pa_cons _ _ _ _ _ (@pvx _ _ _ 2 (.inl (lk ok_instruction_at (i := 3) rfl)) (nmk nms0 (i := 15) rfl) rfl) pa_nil rfl) rfl rfl rfl))) pss_nil) (@pss_cons _ _ _ _ _ (@ps_if _ _ _ _ _ _ _ _ (@pt_cmpR _ _ _ _ _ _ _ _ op_gt (@pe_op _ _ _ _ _ _ _ _ n_add (@pvx _ _ _ 1 (.inl (lk ok_instruction_at (i := 2) rfl)) (nmk nms0 (i := 11) rfl) rfl) (@pn _ 4 _ _)) (@pg_int _ _ _ _ T.c_SIZE (lk ok_instruction_at (i := 6) rfl) (nmk nms0 (i := 6) rfl).1) rfl) (@pss_one _ _ _ (@ps_ret _ _ _ _ (@pg_ref _ _ _ _ T.c_NONE (lk ok_instruction_at (i := 7) rfl) (nmk nms0 (i := 14) rfl).1))) pss_nil) (@pss_one _ _ _ (@ps_ret _ _ _ _ (@pe_fn _ _ _ _ _ _ _ _ _ _ G_wide (hr.mono (by decide)) (lk ok_instruction_at (i := 8) rfl) (@pa_cons _ _ _ _ _ (@pvx _ _ _ 2 (.inl (lk ok_instruction_at (i := 3) rfl)) (nmk nms0 (i := 15) rfl) rfl) (@pa_cons _ _ _ _ _ (@pe_fn _ _ _ _ _ _ _ _ _ _ G_half_at (hr.mono (by decide)) (lk ok_instruction_at (i := 0) rfl) (@pa_cons _ _ _ _ _ (@pvx _ _ _ 0 (.inl (lk ok_instruction_at (i := 1) rfl)) (nmk nms0 (i := 9) rfl) rfl) (@pa_cons _ _ _ _ _ (@pe_op _ _ _ _ _ _ _ _ n_add (@pvx _ _ _ 1 (.inl (lk ok_instruction_at (i := 2) rfl)) (nmk nms0 (i := 11) rfl) rfl) (@pn _ 2 _ _)) pa_nil rfl) rfl) (nmk nms2 (i := 12) rfl).1 rfl rfl) pa_nil rfl) rfl) (nmk nms2 (i := 15) rfl).1 rfl rfl)))))), ?_⟩
  have hh := half_lt hb p
  have p1 : p + 1 < m.length := by rw [hl]; exact hp
  refine do_fn (isa_cons (is_var rfl) (isa_cons (is_var rfl) isa_nil)) ⟨a, m, p, rfl, hS, hb, p1, ?_⟩
  refine ⟨_, rfl, _, rfl, _, rfl, ?_⟩
  refine ite2 (fun c1 => ?_) (fun c1 => ?_)
  · have c1 : half m p / 2048 ≠ 30 := by simpa using c1
    obtain ⟨x, pre, hx, F, hpre⟩ := pick_top (P := P) (w := w) (base := base) T hh c1
    refine fun t ht => ⟨_, rfl, _, _, rfl, rfl, ?_⟩
    obtain ⟨fs, hk, hm⟩ := ht
    obtain ⟨g, hg, hmg⟩ := at_paired hm hx
    refine ⟨_, _, ((half m p / 2048 : Nat) : Int), _, rfl, rfl, hk.sq, atN (map_ref hg), g, _, rfl, ⟨_, F.can hmg⟩, ?_⟩
    exact ⟨_, rfl, half m p, rfl, hh, hpre, fun q H' s1 hi => k q H' s1 (hi _) fun _ => hi⟩
  · have c1 : half m p / 2048 = 30 := by simpa using c1
    refine ⟨_, rfl, _, _, rfl, rfl, _, _, rfl, rfl, _, (bLt 65536 (p + 4)), ?_⟩
    refine ite2 (fun c2 => ?_) (fun c2 => ?_)
    · rw [decide_eq_true_eq] at c2
      refine fun t ht => k t _ (Same.refl _) ?_ fun z => absurd c1 z
      unfold insAt
      rw [if_neg (Nat.not_le_of_lt c2), dec_wide c1, if_neg (by decide), if_neg (fun z => absurd z.2 (by decide))]
      exact none_at ht
    · rw [decide_eq_true_eq] at c2
      refine ⟨_, rfl, _, rfl, _, rfl, _, _, rfl, rfl, a, m, p + 2, rfl, hS, hb, by rw [hl]; exact Nat.le_of_not_lt c2, ?_⟩
      refine ⟨half m p, half m (p + 2), rfl, hh, half_lt hb _, c1, fun q H' s1 hi => k q H' s1 ?_ fun z => absurd c1 z⟩
      unfold insAt
      rw [if_pos (Nat.le_of_not_lt c2)]
      exact hi
end
end Chip

namespace Chip
open PySem L2 LX
theorem for_zip {K : PySem.W.Frag} {a b : Addr} {xs ys : List V} {g : TG} {tb : TS} {D : Ends} {σ : L2.St} {H : Hp} (len : xs.length = ys.length) (Pv : Nat → L2.St → Hp → Prop) (h0 : Pv 0 σ H)
    (hl : ∀ i σ H, Pv i σ H → SqL K H a xs ∧ SqL K H b ys) (un : ∀ H zs, SqL K H a xs → SqL K H a zs → Pv 0 σ H → True)
    (hs : ∀ i x y t σ H, xs[i]? = some x → ys[i]? = some y → H t = none → Pv i σ H → g (.ref t) σ (upd H t (.tup [x, y])) fun σ2 H2 => tb { D with nx := Pv (i + 1), ct := Pv (i + 1), bk := D.nx } σ2 H2) (hd : ∀ σ H, Pv xs.length σ H → D.nx σ H) :
    ∃ W : Nat → Nat → L2.St → Hp → Prop, (∃ m, W 0 m σ H) ∧ ∀ i m σ H, W i m σ H →
      ((Itz K a b).stop i H ∧ D.nx σ H) ∨ ((Itz K a b).go i H ∧ ∃ N : L2.St → Hp → Prop, (∀ σ' H', N σ' H' → ∃ m', m' < m ∧ W (i + 1) m' σ' H') ∧ ∀ x H', (Itz K a b).yld i H x H' → g x σ H' fun σ2 H2 => tb { D with nx := N, ct := N, bk := D.nx } σ2 H2) := by
  refine ⟨fun i m σ H => m = xs.length - i ∧ i ≤ xs.length ∧ Pv i σ H, ⟨xs.length, by simp, Nat.zero_le _, h0⟩, ?_⟩
  rintro i m σ H ⟨rfl, hi, p⟩
  obtain ⟨qa, qb⟩ := hl i σ H p
  by_cases hlt : i < xs.length
  · have hlt2 : i < ys.length := by omega
    refine .inr ⟨⟨xs, ys, xs[i], ys[i], qa, qb, by simp [hlt], by simp [hlt2]⟩, Pv (i + 1), fun σ' H' p' => ⟨xs.length - (i + 1), by omega, rfl, hlt, p'⟩, fun v H' y => ?_⟩
    obtain ⟨t, x, z, rfl, ht, rfl, hx, hz⟩ := y
    exact hs i x z t σ H (hx xs qa) (hz ys qb) ht p
  · obtain rfl : i = xs.length := by omega
    exact .inl ⟨⟨xs, ys, qa, qb, .inl (Nat.le_refl _)⟩, hd σ H p⟩
section
variable {P : Program} {w : World} {K : PySem.W.Frag} {mg : Str → Option Value} {base : Heap}
noncomputable def memL (ps ds : List Nat) : List Nat := (ps.zip ds).foldl (fun m x => m.set x.1 x.2) (List.replicate 65536 0)
theorem fold_len (l : List (Nat × Nat)) : ∀ m : List Nat, (l.foldl (fun m x => m.set x.1 x.2) m).length = m.length := by
  induction l with
  | nil => intro m; rfl
  | cons x l ih => intro m; rw [List.foldl_cons, ih, List.length_set]
theorem memL_len (ps ds : List Nat) : (memL ps ds).length = 65536 := by
  unfold memL
  rw [fold_len, List.length_replicate]
theorem fold_lt (l : List (Nat × Nat)) : ∀ m : List Nat, (∀ x ∈ m, x < 256) → (∀ x ∈ l, x.2 < 256) → ∀ x ∈ l.foldl (fun m x => m.set x.1 x.2) m, x < 256 := by
  induction l with
  | nil => intro m h _; exact h
  | cons y l ih =>
    intro m h hl
    rw [List.foldl_cons]
    refine ih _ (fun x hx => ?_) (fun x hx => hl x (List.mem_cons_of_mem _ hx))
    rcases List.mem_or_eq_of_mem_set hx with z | z
    · exact h x z
    · rw [z]; exact hl y (List.mem_cons_self)
theorem memL_lt {ps ds : List Nat} (h : ∀ d ∈ ds, d < 256) : ∀ x ∈ memL ps ds, x < 256 := by
  unfold memL
  refine fold_lt _ _ (fun x hx => ?_) (fun x hx => h x.2 (List.of_mem_zip hx).2)
  rw [List.eq_of_mem_replicate hx]
  decide
theorem rep_map (n : Nat) : (List.replicate n [vN 0]).flatten = (List.replicate n 0).map vN := by
  induction n with
  | zero => rfl
  | succ n ih => rw [List.replicate_succ, List.flatten_cons, ih, List.replicate_succ, List.map_cons]; rfl
noncomputable def sp_memory_of (K : PySem.W.Frag) : Sp := fun vs H Q _ => ∃ (a b : Addr) (ps ds : List Nat), vs = [.ref a, .ref b] ∧ SqL K H a (ps.map vN) ∧ SqL K H b (ds.map vN) ∧ ps.length = ds.length ∧ (∀ p ∈ ps, p < 65536) ∧
  ∀ l H', H l = none → Same H H' → H' l = some (.lst ((memL ps ds).map vN)) → Q (.ref l) H'
theorem fn_memory_of (T : Txt K mg) : Fn P w K mg base "memory_of" 1 ["places", "data"] (sp_memory_of K) := by
  refine T.d_memory_of.fn sc_memory_of (fun _ _ _ _ _ _ => ln2 (fun _ _ => rfl)) (fun vs H Q E h => ?_) (fun f cdv A outer s H vs Q E hr h => ?_)
  · obtain ⟨a, b, ps, ds, rfl, _⟩ := h
    rfl
  obtain ⟨a, b, ps, ds, rfl, hA, hB, len, hps, k⟩ := h
  refine ⟨_, (@pss_cons _ _ _ _ _ (@ps_set _ _ 2 _ _ _ _ sc_memory_of.nd rfl (Or.inl (lk ok_memory_of (i := 1) rfl)) (@pe_op _ _ _ _ _ _ _ _ op_rep (@pe_lst _ _ _ _ (@pa_cons _ _ _ _ _ (@pn _ 0 _ _) pa_nil rfl)) (@pg_int _ _ _ _ T.c_SIZE (lk ok_memory_of (i := 0) rfl) (nmk nms0 (i := 6) rfl).1)) rfl (.inl rfl)) (@pss_cons _ _ _ _ _ (@ps_for _ _ _ _ _ _ _ _ PassesOwn.never rfl (@pi_zip _ _ _ _ _ _ _ _ _ (lk ok_memory_of (i := 4) rfl) T.n_zip (@pa_cons _ _ _ _ _ (@pvx _ _ _ 0 (.inl (lk ok_memory_of (i := 5) rfl)) (nmk nms0 (i := 7) rfl) rfl) (@pa_cons _ _ _ _ _ (@pvx _ _ _ 1 (.inl (lk ok_memory_of (i := 6) rfl)) (nmk nms0 (i := 8) rfl) rfl) pa_nil rfl) rfl) rfl rfl) (@pg_tup _ _ _ _ _ 2 rfl (@pgs_cons _ _ _ _ _ (@pg_name _ _ 3 _ sc_memory_of.nd rfl (Or.inl (lk ok_memory_of (i := 3) rfl)) (.inl rfl)) (@pgs_cons _ _ _ _ _ (@pg_name _ _ 4 _ sc_memory_of.nd rfl (Or.inl (lk ok_memory_of (i := 2) rfl)) (.inl rfl)) pgs_nil rfl) rfl) rfl rfl) (@pss_one _ _ _ (@ps_asg _ _ _ _ _ _ (@pvx _ _ _ 4 (.inl (lk ok_memory_of (i := 2) rfl)) (nmk nms0 (i := 10) rfl) rfl) (@pg_sub _ _ _ _ _ _ _ (@pvx _ _ _ 2 (.inl (lk ok_memory_of (i := 1) rfl)) (nmk nms0 (i := 9) rfl) rfl) (@pvx _ _ _ 3 (.inl (lk ok_memory_of (i := 3) rfl)) (nmk nms0 (i := 11) rfl) rfl) set_list (by intros; rfl)) rfl rfl rfl)) (by intro _; rfl)) (@pss_one _ _ _ (@ps_ret _ _ _ _ (@pvx _ _ _ 2 (.inl (lk ok_memory_of (i := 1) rfl)) (nmk nms0 (i := 9) rfl) rfl))))), ?_⟩
  refine ⟨len1, fun p0 hp0 => ?_⟩
  refine ⟨_, _, _, rfl, rfl, upd_same, by decide, by decide, by decide, fun l hl => ?_⟩
  have nl : H l = none := by
    have z := hl
    unfold upd at z
    split at z
    · cases z
    · exact z
  have s1 : Same H (upd (upd H p0 (.lst [vN 0])) l (.lst (List.replicate ((65536 : Nat) : Int).toNat [vN 0]).flatten)) := (same_upd hp0).trans (same_upd hl)
  refine ⟨_, rfl, _, rfl, _, _, _, _, rfl, s1.seq hA, s1.seq hB, ?_⟩
  refine for_zip (xs := ps.map vN) (ys := ds.map vN) (by rw [List.length_map, List.length_map]; exact len)
    (fun i σ H' => ∃ x y, σ = [some (.ref a), some (.ref b), some (.ref l), x, y] ∧ Same H H' ∧ H' l = some (.lst ((((ps.zip ds).take i).foldl (fun m x => m.set x.1 x.2) (List.replicate 65536 0)).map vN)))
    ⟨_, _, rfl, s1, upd_same.trans (by rw [rep_map]; rfl)⟩ (fun i σ H' h => ?_) (fun _ _ _ _ _ => trivial) (fun i x y t σ H' hx hy ht h => ?_) (fun σ H' h => ?_)
  · obtain ⟨_, _, _, s2, _⟩ := h
    exact ⟨s2.seq hA, s2.seq hB⟩
  · obtain ⟨x0, y0, rfl, s2, h2⟩ := h
    rw [List.getElem?_map] at hx hy
    obtain ⟨px, ex, rfl⟩ := Option.map_eq_some_iff.mp hx
    obtain ⟨dy, ey, rfl⟩ := Option.map_eq_some_iff.mp hy
    have lt : t ≠ l := fun e => by rw [e, h2] at ht; cases ht
    refine ⟨t, _, rfl, .of upd_same, rfl, _, _, rfl, _, _, rfl, rfl, ?_⟩
    refine ⟨_, rfl, _, rfl, _, rfl, l, _, _, px, rfl, rfl, (upd_ne (fun e => lt e.symm)).trans h2, ?_, ?_⟩
    · have hp := hps px (List.mem_of_getElem? ex)
      rw [List.length_map, fold_len, List.length_replicate]
      unfold ixN
      rw [if_pos (Int.natCast_nonneg _), if_pos (by omega), Int.toNat_natCast]
    · refine ⟨_, _, rfl, fun c o e => ?_, upd_same.trans ?_⟩
      · have lc : c ≠ l := ne_of_none e nl
        rw [upd_ne lc, upd_ne (ne_of_none (s2 c o e) ht)]
        exact s2 c o e
      · have ez : (ps.zip ds)[i]? = some (px, dy) := List.getElem?_zip_eq_some.mpr ⟨ex, ey⟩
        rw [List.take_add_one, ez, Option.toList_some, List.foldl_append, List.foldl_cons, List.foldl_nil, List.map_set]
  · obtain ⟨x0, y0, rfl, s2, h2⟩ := h
    refine ⟨_, rfl, k l H' nl s2 (h2.trans ?_)⟩
    rw [List.length_map, List.take_of_length_le (by rw [List.length_zip]; omega)]
    rfl
noncomputable abbrev tl (x : Str) : List Nat := x.cps.toList
theorem len_tl (x : Str) : x.length = (tl x).length := TL.len_tl x
theorem tl_app (x y : Str) : tl (x ++ y) = tl x ++ tl y := TL.tl_append x y
noncomputable def hx (n : Nat) : List Nat := (Nat.toDigits 16 n).map Char.toNat
noncomputable def dg (n : Nat) : Nat := (Nat.digitChar n).toNat
theorem hx_lt {n : Nat} (h : n < 16) : hx n = [dg n] := by
  unfold hx
  rw [Nat.toDigits_of_lt_base h]
  rfl
theorem hx_step {n : Nat} (h : 16 ≤ n) : hx n = hx (n / 16) ++ [dg (n % 16)] := by
  have hm : n % 16 < 16 := Nat.mod_lt n (by decide)
  have t : Nat.toDigits 16 (n / 16) ++ Nat.toDigits 16 (n % 16) = Nat.toDigits 16 (16 * (n / 16) + n % 16) := Nat.toDigits_append_toDigits (by decide) (by omega) hm
  rw [Nat.div_add_mod] at t
  unfold hx
  rw [← t, List.map_append, Nat.toDigits_of_lt_base hm]
  rfl
theorem digit_at {d : Nat} (h : d < 16) : atI (tl ("0123456789abcdef" : Str)) (d : Int) = some (dg d) := by
  have all : ∀ j : _root_.Fin 16, (tl ("0123456789abcdef" : Str))[j.1]? = some (dg j.1) := by decide +kernel
  exact atI_nat (all ⟨d, h⟩)
noncomputable def sp_hexadecimal : Sp := fun vs H Q _ => ∃ n : Nat, vs = [vN n] ∧ n < 2 ^ 32 ∧ ∀ x : Str, tl x = Sd12.hex n → x.length ≤ 12 → Q (.str x) H
theorem digits_len : ("0123456789abcdef" : Str).length ≤ sizeLine := by decide +kernel
theorem one_len (c : Nat) : (⟨#[c]⟩ : Str).length = 1 := rfl
theorem div16 : (0 : Nat) < 16 ∧ (16 : Nat) < 1073741824 := ⟨by decide, by decide⟩
theorem idig {σ : L2.St} {H : Hp} {ta : TE} {x : Nat} (ha : Is ta σ H (vN x)) : Is (tOp rIxS (tC (.str "0123456789abcdef")) (tOp (rNC (fun _ b => 0 < b) fun a b => a % b) ta (tC (.int ((16 : Nat) : Int))))) σ H (.str ⟨#[dg (x % 16)]⟩) :=
  fun Q q => ha _ ⟨x, 16, rfl, rfl, (by show 0 < 16; decide), _, _, _, rfl, rfl, digits_len, digit_at (Nat.mod_lt x (by decide)), q⟩
theorem fn_hexadecimal (T : Txt K mg) : Fn P w K mg base "hexadecimal" 1 ["number"] sp_hexadecimal := by
  refine T.d_hexadecimal.fn sc_hexadecimal (fun _ _ _ _ _ _ => ln1 (fun _ => rfl)) (fun vs H Q E h => ?_) (fun f cdv A outer s H vs Q E hr h => ?_)
  · obtain ⟨n, rfl, _⟩ := h
    rfl
  obtain ⟨n, rfl, hn, k⟩ := h
  refine ⟨_, (@pss_cons _ _ _ _ _ (@ps_set _ _ 1 _ _ _ _ sc_hexadecimal.nd rfl (Or.inl (lk ok_hexadecimal (i := 2) rfl)) (@pe_ix _ _ _ _ _ _ _ ix_str (@pg_strc _ _ _ _ T.c_DIGITS (lk ok_hexadecimal (i := 0) rfl) (nmk nms2 (i := 17) rfl).1) (@pe_op _ _ _ _ _ _ _ _ n_mod (@pvx _ _ _ 0 (.inl (lk ok_hexadecimal (i := 1) rfl)) (nmk nms2 (i := 10) rfl) rfl) (@pn _ 16 _ _)) (fun _ _ => rfl)) rfl (.inl rfl)) (@pss_cons _ _ _ _ _ (@ps_set _ _ 2 _ _ _ _ sc_hexadecimal.nd rfl (Or.inl (lk ok_hexadecimal (i := 3) rfl)) (@pe_op _ _ _ _ _ _ _ _ n_div (@pvx _ _ _ 0 (.inl (lk ok_hexadecimal (i := 1) rfl)) (nmk nms2 (i := 10) rfl) rfl) (@pn _ 16 _ _)) rfl (.inl rfl)) (@pss_cons _ _ _ _ _ (@ps_while _ _ _ _ _ _ PassesOwn.never (@pt_cmpR _ _ _ _ _ _ _ _ op_gt (@pvx _ _ _ 2 (.inl (lk ok_hexadecimal (i := 3) rfl)) (nmk nms2 (i := 18) rfl) rfl) (@pn _ 0 _ _) rfl) (@pss_cons _ _ _ _ _ (@ps_set _ _ 1 _ _ _ _ sc_hexadecimal.nd rfl (Or.inl (lk ok_hexadecimal (i := 2) rfl)) (@pe_op _ _ _ _ _ _ _ _ op_add_str (@pe_ix _ _ _ _ _ _ _ ix_str (@pg_strc _ _ _ _ T.c_DIGITS (lk ok_hexadecimal (i := 0) rfl) (nmk nms2 (i := 17) rfl).1) (@pe_op _ _ _ _ _ _ _ _ n_mod (@pvx _ _ _ 2 (.inl (lk ok_hexadecimal (i := 3) rfl)) (nmk nms2 (i := 18) rfl) rfl) (@pn _ 16 _ _)) (fun _ _ => rfl)) (@pvx _ _ _ 1 (.inl (lk ok_hexadecimal (i := 2) rfl)) (nmk nms2 (i := 19) rfl) rfl)) rfl (.inl rfl)) (@pss_one _ _ _ (@ps_set _ _ 2 _ _ _ _ sc_hexadecimal.nd rfl (Or.inl (lk ok_hexadecimal (i := 3) rfl)) (@pe_op _ _ _ _ _ _ _ _ n_div (@pvx _ _ _ 2 (.inl (lk ok_hexadecimal (i := 3) rfl)) (nmk nms2 (i := 18) rfl) rfl) (@pn _ 16 _ _)) rfl (.inl rfl))))) (@pss_one _ _ _ (@ps_ret _ _ _ _ (@pe_op _ _ _ _ _ _ _ _ op_add_str pe_str (@pvx _ _ _ 1 (.inl (lk ok_hexadecimal (i := 2) rfl)) (nmk nms2 (i := 19) rfl) rfl))))))), ?_⟩
  refine idig (is_var rfl) _ ?_
  refine is_nc (is_var rfl) is_c (by exact div16) _ ?_
  refine while_by (fun σ H' => H' = H ∧ ∃ (d : Str) (r j : Nat), σ = [some (vN n), some (.str d), some (vN r)] ∧ hx n = (if r = 0 then [] else hx r) ++ tl d ∧ r < 16 ^ j ∧ d.length + j ≤ 8)
    (fun σ H' => match σ with | [_, _, some (.int r)] => r.toNat | _ => 0) ⟨rfl, ⟨#[dg (n % 16)]⟩, n / 16, 7, rfl, ?_, ?_, by show 1 + 7 ≤ 8; decide⟩ (fun σ H' h => ?_) (fun σ H' Q1 Q2 hq h => ?_)
  · by_cases c : n < 16
    · rw [if_pos (by omega), hx_lt c, Nat.mod_eq_of_lt c]
      rfl
    · rw [if_neg (by omega), hx_step (by omega)]
  · omega
  · obtain ⟨rfl, d, r, j, rfl, he, hr', hz⟩ := h
    refine ⟨_, rfl, _, _, rfl, rfl, _, bLt 0 r, ?_⟩
    refine ite2 (fun c => ?_) (fun c => ?_)
    · rw [decide_eq_true_eq] at c
      refine idig (is_var rfl) _ ?_
      refine ⟨_, rfl, _, _, rfl, rfl, ?_, ?_⟩
      · rw [one_len]
        exact Nat.le_trans (by omega : 1 + d.length ≤ 100) (by decide)
      refine is_nc (is_var rfl) is_c (by exact div16) _ ?_
      cases j with
      | zero => omega
      | succ j =>
        refine ⟨⟨rfl, (⟨#[dg (r % 16)]⟩ : Str) ++ d, r / 16, j, rfl, ?_, ?_, ?_⟩, ?_⟩
        · rw [he, if_neg (by omega), tl_app]
          by_cases c2 : r < 16
          · rw [if_pos (by omega), hx_lt c2, Nat.mod_eq_of_lt c2]
            rfl
          · rw [if_neg (by omega), hx_step (by omega), List.append_assoc]
        · rw [Nat.pow_succ] at hr'
          omega
        · rw [len_tl, tl_app, List.length_append, ← len_tl d]
          show 1 + d.length + j ≤ 8
          omega
        · show ((r / 16 : Nat) : Int).toNat < ((r : Nat) : Int).toNat
          omega
    · rw [decide_eq_true_eq] at c
      have c : r = 0 := by omega
      rw [if_pos c, List.nil_append] at he
      refine ⟨_, rfl, _, _, rfl, rfl, ?_, k _ ?_ ?_⟩
      · show 2 + d.length ≤ sizeLine
        exact Nat.le_trans (by omega : 2 + d.length ≤ 100) (by decide)
      · rw [tl_app, ← he]
        rfl
      · rw [len_tl, tl_app, List.length_append, ← len_tl d]
        show 2 + d.length ≤ 12
        omega
  · obtain ⟨v, e1, i, j, e2, e3, kk, e4, h⟩ := h
    exact ⟨v, e1, i, j, e2, e3, kk, e4, hq _ _ h⟩
end
end Chip

namespace Chip
open PySem L2 LX
open Sd12 (reg imm hex comma braces ascii)
section
variable {P : Program} {w : World} {K : PySem.W.Frag} {mg : Str → Option Value} {base : Heap}
noncomputable def sp_wr (K : PySem.W.Frag) (rel : Ab → Nat → List Nat → Prop) : Sp := fun vs H Q _ => ∃ (p : Addr) (at_ : Nat) (b : Ab) (t : List Nat), vs = [.ref p, vN at_] ∧ at_ < 65536 ∧ InsAt K H p b ∧ rel b at_ t ∧
  ∀ x H', Same H H' → tl x = t → x.length ≤ 100 → Q (.str x) H'
theorem wr_len {rel : Ab → Nat → List Nat → Prop} {vs : List V} {H : Hp} {Q : VK} {E : XK} (h : sp_wr K rel vs H Q E) : vs.length = 2 := by
  obtain ⟨p, a, b, t, rfl, _⟩ := h
  rfl
noncomputable def regNames : List Str := ["r0", "r1", "r2", "r3", "r4", "r5", "r6", "r7", "r8", "r9", "r10", "r11", "r12", "sp", "lr", "pc"]
theorem reg_tl {r : Nat} (h : r < 16) : tl (regNames.getD r "") = reg r ∧ (regNames.getD r "").length ≤ 3 := by
  have all : ∀ j : _root_.Fin 16, tl (regNames.getD j.1 "") = reg j.1 ∧ (regNames.getD j.1 "").length ≤ 3 := by decide +kernel
  exact all ⟨r, h⟩
noncomputable def rD (b : Ab) (_ : Nat) (t : List Nat) : Prop := ∃ r, r < 16 ∧ b.d = vN r ∧ t = reg r
noncomputable def rN (b : Ab) (_ : Nat) (t : List Nat) : Prop := ∃ r, r < 16 ∧ b.n = vN r ∧ t = reg r
noncomputable def rS (b : Ab) (_ : Nat) (t : List Nat) : Prop := (∃ r, r < 16 ∧ b.m = vN r ∧ t = reg r) ∨ (b.m = .non ∧ ∃ k : Nat, k < 1048576 ∧ b.i = .inl (k : Int) ∧ t = imm k)
noncomputable def rZ (_ : Ab) (_ : Nat) (t : List Nat) : Prop := t = imm 0
noncomputable def rP (b : Ab) (a : Nat) (t : List Nat) : Prop := ∃ n s, rN b a n ∧ rS b a s ∧ t = 91 :: (n ++ (ascii ", " ++ (s ++ [93])))
noncomputable def rB (b : Ab) (_ : Nat) (t : List Nat) : Prop := ∃ r l, r < 16 ∧ b.n = vN r ∧ b.i = .inr l ∧ t = reg r ++ (if b.name = "ldm" ∧ l.contains r = true then [] else [33])
noncomputable def rL (b : Ab) (_ : Nat) (t : List Nat) : Prop := ∃ l, b.i = .inr l ∧ (∀ r ∈ l, r < 16) ∧ l.length ≤ 9 ∧ t = braces l
noncomputable def rT (b : Ab) (a : Nat) (t : List Nat) : Prop := ∃ off : Int, b.i = .inl off ∧ t = hex ((((a + 4 : Nat) : Int) + off) % Sd12.W).toNat
theorem wr_fn {x : Str} {st : Stmt} {N : List Str} {k : Nat} {rel : Ab → Nat → List Nat → Prop} (D : Def K mg x st) (S : FnScope N ["instruction", "at"] (defScope st))
    (hb : ∀ (kV doc pm : Value) (an : Option Addr) (cdv ct : Value) (us : List Value), us.length = (["instruction", "at"] : List Str).length → bindArgs (PySem.W.fnOf x x (defArgs st) (defBody st) (defScope st) .none kV doc pm an cdv ct) ⟨us, []⟩ = pure ((["instruction", "at"] : List Str).zip us))
    (body : ∀ (f : Addr) (cdv : Value) (A : Around) (outer : List Env) (s : Shared) (H : Hp) (p : Addr) (a : Nat) (b : Ab) (t : List Nat) (Q : VK) (E : XK), Room k (A.deeper (PyProof.Rows.envOfC x (defScope st) s.heap.objs.size f cdv)) → a < 65536 → InsAt K H p b → rel b a t → (∀ x H', Same H H' → tl x = t → x.length ≤ 100 → Q (.str x) H') →
      ∃ t, PSs (cxOf CX0 P w K mg base N x (defScope st) f cdv A outer s H E).nox (defBody st) t ∧ t { nx := fun _ H' => Q .non H', rt := Q } (start N [.ref p, vN a]) H) : Fn P w K mg base x (k + 1) ["instruction", "at"] (sp_wr K rel) := by
  refine D.fn S hb (fun vs H Q E h => wr_len h) (fun f cdv A outer s H vs Q E hr h => ?_)
  obtain ⟨p, a, b, t, rfl, ha, hI, hrel, kk⟩ := h
  exact body f cdv A outer s H p a b t Q E hr ha hI hrel kk
theorem fn_written_d (T : Txt K mg) : Fn P w K mg base "written_d" 1 ["instruction", "at"] (sp_wr K rD) := by
  refine wr_fn T.d_written_d sc_written_d (fun _ _ _ _ _ _ => ln2 (fun _ _ => rfl)) (fun f cdv A outer s H p a b t Q E hr ha hI hrel k => ?_)
  obtain ⟨iv, po, hi, _⟩ := hI
  obtain ⟨r, hr16, er, rfl⟩ := hrel
  refine ⟨_, (@pss_one _ _ _ (@ps_ret _ _ _ _ (@pe_ix _ _ _ _ _ _ _ ix_tup (@pg_ref _ _ _ _ T.c_REGISTERS (lk ok_written_d (i := 0) rfl) (nmk nms2 (i := 20) rfl).1) (@pe_ix _ _ _ _ _ _ _ ix_tup (@pvx _ _ _ 0 (.inl (lk ok_written_d (i := 1) rfl)) (nmk nms2 (i := 16) rfl) rfl) (@pn _ 1 _ _) (fun _ _ => rfl)) (fun _ _ => rfl)))), ?_⟩
  rw [er] at hi
  refine is_ixG (j := r) (by exact is_ixT (j := 1) (is_var rfl) is_c hi rfl) (nm_at (L := regNames) hr16 rfl) _ ?_
  exact k _ _ (Same.refl _) (reg_tl hr16).1 (Nat.le_trans (reg_tl hr16).2 (by decide))
theorem fn_written_n (T : Txt K mg) : Fn P w K mg base "written_n" 1 ["instruction", "at"] (sp_wr K rN) := by
  refine wr_fn T.d_written_n sc_written_n (fun _ _ _ _ _ _ => ln2 (fun _ _ => rfl)) (fun f cdv A outer s H p a b t Q E hr ha hI hrel k => ?_)
  obtain ⟨iv, po, hi, _⟩ := hI
  obtain ⟨r, hr16, er, rfl⟩ := hrel
  refine ⟨_, (@pss_one _ _ _ (@ps_ret _ _ _ _ (@pe_ix _ _ _ _ _ _ _ ix_tup (@pg_ref _ _ _ _ T.c_REGISTERS (lk ok_written_n (i := 0) rfl) (nmk nms2 (i := 20) rfl).1) (@pe_ix _ _ _ _ _ _ _ ix_tup (@pvx _ _ _ 0 (.inl (lk ok_written_n (i := 1) rfl)) (nmk nms2 (i := 16) rfl) rfl) (@pn _ 2 _ _) (fun _ _ => rfl)) (fun _ _ => rfl)))), ?_⟩
  rw [er] at hi
  refine is_ixG (j := r) (by exact is_ixT (j := 2) (is_var rfl) is_c hi rfl) (nm_at (L := regNames) hr16 rfl) _ ?_
  exact k _ _ (Same.refl _) (reg_tl hr16).1 (Nat.le_trans (reg_tl hr16).2 (by decide))
theorem fn_written_zero (T : Txt K mg) : Fn P w K mg base "written_zero" 1 ["instruction", "at"] (sp_wr K rZ) := by
  refine wr_fn T.d_written_zero sc_written_zero (fun _ _ _ _ _ _ => ln2 (fun _ _ => rfl)) (fun f cdv A outer s H p a b t Q E hr ha hI hrel k => ?_)
  have hi := hI
  obtain rfl := hrel
  refine ⟨_, (@pss_one _ _ _ (@ps_ret _ _ _ _ pe_str)), ?_⟩
  exact k _ _ (Same.refl _) (by decide +kernel) (by decide +kernel)
theorem num_len {k : Nat} (h : k < 1048576) : (TL.numL k).length ≤ 7 := TL.numL_len (by decide) (by omega)
theorem log_small {k : Nat} (h : k < 1048576) : ((k : Int)).natAbs.log2 < 1920 := by
  rw [Int.natAbs_natCast]
  by_cases c : k = 0
  · subst c
    decide
  · exact Nat.lt_of_lt_of_le ((Nat.log2_lt c).mpr (show k < 2 ^ 20 by omega)) (by decide)
theorem fmt_tl (k : Nat) : tl (("#" : Str) ++ ((toString (k : Int) : String) : Str)) = imm k := by
  rw [tl_app]
  show tl ("#" : Str) ++ TL.tl (Str.ofString (toString ((k : Nat) : Int))) = _
  rw [TL.tl_num]
  rfl
theorem fn_written_second (T : Txt K mg) : Fn P w K mg base "written_second" 1 ["instruction", "at"] (sp_wr K rS) := by
  refine wr_fn T.d_written_second sc_written_second (fun _ _ _ _ _ _ => ln2 (fun _ _ => rfl)) (fun f cdv A outer s H p a b t Q E hr ha hI hrel k => ?_)
  obtain ⟨iv, po, hi, _, hv⟩ := hI
  refine ⟨_, (@pss_cons _ _ _ _ _ (@ps_set _ _ 2 _ _ _ _ sc_written_second.nd rfl (Or.inl (lk ok_written_second (i := 1) rfl)) (@pe_ix _ _ _ _ _ _ _ ix_tup (@pvx _ _ _ 0 (.inl (lk ok_written_second (i := 0) rfl)) (nmk nms2 (i := 16) rfl) rfl) (@pn _ 3 _ _) (fun _ _ => rfl)) rfl (.inl rfl)) (@pss_cons _ _ _ _ _ (@ps_set _ _ 3 _ _ _ _ sc_written_second.nd rfl (Or.inl (lk ok_written_second (i := 2) rfl)) (@pe_ix _ _ _ _ _ _ _ ix_tup (@pvx _ _ _ 0 (.inl (lk ok_written_second (i := 0) rfl)) (nmk nms2 (i := 16) rfl) rfl) (@pn _ 4 _ _) (fun _ _ => rfl)) rfl (.inl rfl)) (@pss_one _ _ _ (@ps_ret _ _ _ _ (@pe_ifExp _ _ _ _ _ _ _ _ (@pt_cmp _ _ _ _ _ _ (@pc_isN _ _ _ _ _ (@pvx _ _ _ 2 (.inl (lk ok_written_second (i := 1) rfl)) (nmk nms0 (i := 20) rfl) rfl)) rfl) (@pe_fmt _ _ _ _ _ _ _ _ (@pvx _ _ _ 3 (.inl (lk ok_written_second (i := 2) rfl)) (nmk nms0 (i := 17) rfl) rfl) (by decide)) (@pe_ix _ _ _ _ _ _ _ ix_tup (@pg_ref _ _ _ _ T.c_REGISTERS (lk ok_written_second (i := 3) rfl) (nmk nms2 (i := 20) rfl).1) (@pvx _ _ _ 2 (.inl (lk ok_written_second (i := 1) rfl)) (nmk nms0 (i := 20) rfl) rfl) (fun _ _ => rfl))))))), ?_⟩
  refine ⟨_, rfl, _, _, _, _, rfl, rfl, hi, atN (i := 3) rfl, _, rfl, _, _, _, _, rfl, rfl, hi, atN (i := 4) rfl, ?_⟩
  rcases hrel with ⟨r, hr16, er, rfl⟩ | ⟨en, z, hz, ei, rfl⟩
  · refine ⟨_, rfl, _, rfl, ?_⟩
    rw [er, decide_eq_false (show ¬ vN r = V.non from fun z => by cases z)]
    refine iteF ?_
    refine fun q hq => ⟨_, rfl, _, _, _, _, rfl, rfl, hq.sq, atN (names_at (L := regNames) hr16), ?_⟩
    exact k _ _ (Same.refl _) (reg_tl hr16).1 (Nat.le_trans (reg_tl hr16).2 (by decide))
  · rw [ei] at hv
    have hv : iv = .int (z : Int) := hv
    subst hv
    refine ⟨_, rfl, _, rfl, ?_⟩
    rw [en, decide_eq_true rfl]
    refine iteT ?_
    have hl : (("#" : Str) ++ ((toString (z : Int) : String) : Str)).length ≤ 8 := by
      rw [len_tl, fmt_tl]
      show (35 :: TL.numL z).length ≤ 8
      have := num_len hz
      rw [List.length_cons]
      omega
    refine ⟨_, rfl, _, rfl, log_small hz, Nat.le_trans hl (by decide), ?_⟩
    exact k _ _ (Same.refl _) (fmt_tl z) (Nat.le_trans hl (by decide))
theorem fits {n : Nat} (h : n ≤ 10000) : n ≤ sizeLine := Nat.le_trans h (by decide)
theorem rN_len {b : Ab} {a : Nat} {t : List Nat} (h : rN b a t) : t.length ≤ 3 := by
  obtain ⟨r, hr, _, rfl⟩ := h
  rw [← (reg_tl hr).1, ← len_tl]
  exact (reg_tl hr).2
theorem rS_len {b : Ab} {a : Nat} {t : List Nat} (h : rS b a t) : t.length ≤ 8 := by
  rcases h with ⟨r, hr, _, rfl⟩ | ⟨_, k, hk, _, rfl⟩
  · rw [← (reg_tl hr).1, ← len_tl]
    exact Nat.le_trans (reg_tl hr).2 (by decide)
  · show (35 :: TL.numL k).length ≤ 8
    have := num_len hk
    rw [List.length_cons]
    omega
theorem fn_written_place (T : Txt K mg) : Fn P w K mg base "written_place" 2 ["instruction", "at"] (sp_wr K rP) := by
  have G_written_n := fn_written_n (P := P) (w := w) (base := base) T
  have G_written_second := fn_written_second (P := P) (w := w) (base := base) T
  refine wr_fn T.d_written_place sc_written_place (fun _ _ _ _ _ _ => ln2 (fun _ _ => rfl)) (fun f cdv A outer s H p a b t Q E hr ha hI hrel k => ?_)
  have hi := hI
  obtain ⟨n, sc, hn, hsc, rfl⟩ := hrel
  refine ⟨_, (@pss_one _ _ _ (@ps_ret _ _ _ _ (@pe_op _ _ _ _ _ _ _ _ op_add_str (@pe_op _ _ _ _ _ _ _ _ op_add_str (@pe_op _ _ _ _ _ _ _ _ op_add_str (@pe_op _ _ _ _ _ _ _ _ op_add_str pe_str (@pe_fn _ _ _ _ _ _ _ _ _ _ G_written_n (hr.mono (by decide)) (lk ok_written_place (i := 0) rfl) (@pa_cons _ _ _ _ _ (@pvx _ _ _ 0 (.inl (lk ok_written_place (i := 1) rfl)) (nmk nms2 (i := 16) rfl) rfl) (@pa_cons _ _ _ _ _ (@pvx _ _ _ 1 (.inl (lk ok_written_place (i := 2) rfl)) (nmk nms2 (i := 21) rfl) rfl) pa_nil rfl) rfl) (nmk nms2 (i := 22) rfl).1 rfl rfl)) pe_str) (@pe_fn _ _ _ _ _ _ _ _ _ _ G_written_second (hr.mono (by decide)) (lk ok_written_place (i := 3) rfl) (@pa_cons _ _ _ _ _ (@pvx _ _ _ 0 (.inl (lk ok_written_place (i := 1) rfl)) (nmk nms2 (i := 16) rfl) rfl) (@pa_cons _ _ _ _ _ (@pvx _ _ _ 1 (.inl (lk ok_written_place (i := 2) rfl)) (nmk nms2 (i := 21) rfl) rfl) pa_nil rfl) rfl) (nmk nms2 (i := 23) rfl).1 rfl rfl)) pe_str))), ?_⟩
  have l1 := rN_len hn
  have l2 := rS_len hsc
  refine ⟨_, rfl, _, rfl, p, a, b, n, rfl, ha, hi, hn, fun x H1 s1 ex lx => ?_⟩
  have lx' : x.length ≤ 3 := by rw [len_tl, ex]; exact l1
  refine ⟨_, _, rfl, rfl, fits (by show 1 + x.length ≤ 10000; omega), ?_⟩
  have e1 : tl (("[" : Str) ++ x) = 91 :: n := by rw [tl_app, ex]; rfl
  refine ⟨_, _, rfl, rfl, fits (by rw [len_tl, e1, List.length_cons]; show n.length + 1 + 2 ≤ 10000; omega), ?_⟩
  have e2 : tl (("[" : Str) ++ x ++ (", " : Str)) = 91 :: (n ++ ascii ", ") := by rw [tl_app, e1]; rfl
  refine ⟨_, rfl, _, rfl, p, a, b, sc, rfl, ha, hi.same s1, hsc, fun y H2 s2 ey ly => ?_⟩
  have ly' : y.length ≤ 8 := by rw [len_tl, ey]; exact l2
  refine ⟨_, _, rfl, rfl, fits (by rw [len_tl, e2, List.length_cons, List.length_append]; show n.length + 2 + 1 + y.length ≤ 10000; omega), ?_⟩
  have e3 : tl (("[" : Str) ++ x ++ (", " : Str) ++ y) = 91 :: (n ++ ascii ", ") ++ sc := by rw [tl_app, e2, ey]
  have l3 : (tl (("[" : Str) ++ x ++ (", " : Str) ++ y)).length ≤ 14 := by
    rw [e3, List.length_append, List.length_cons, List.length_append]
    show n.length + 2 + 1 + sc.length ≤ 14
    omega
  refine ⟨_, _, rfl, rfl, fits (by rw [len_tl]; show _ + 1 ≤ 10000; omega), ?_⟩
  refine k _ _ (s1.trans s2) ?_ ?_
  · rw [tl_app, e3]
    show (91 :: (n ++ ascii ", ") ++ sc) ++ [93] = _
    simp only [List.cons_append, List.append_assoc]
  · rw [len_tl, tl_app, List.length_append]
    show _ + 1 ≤ 100
    omega
theorem fn_written_base (T : Txt K mg) : Fn P w K mg base "written_base" 2 ["instruction", "at"] (sp_wr K rB) := by
  have G_written_n := fn_written_n (P := P) (w := w) (base := base) T
  refine wr_fn T.d_written_base sc_written_base (fun _ _ _ _ _ _ => ln2 (fun _ _ => rfl)) (fun f cdv A outer s H p a b t Q E hr ha hI hrel k => ?_)
  have hi := hI
  obtain ⟨r, l, hr16, en, ei, rfl⟩ := hrel
  refine ⟨_, (@pss_cons _ _ _ _ _ (@ps_set _ _ 2 _ _ _ _ sc_written_base.nd rfl (Or.inl (lk ok_written_base (i := 3) rfl)) (@pe_fn _ _ _ _ _ _ _ _ _ _ G_written_n (hr.mono (by decide)) (lk ok_written_base (i := 0) rfl) (@pa_cons _ _ _ _ _ (@pvx _ _ _ 0 (.inl (lk ok_written_base (i := 1) rfl)) (nmk nms2 (i := 16) rfl) rfl) (@pa_cons _ _ _ _ _ (@pvx _ _ _ 1 (.inl (lk ok_written_base (i := 2) rfl)) (nmk nms2 (i := 21) rfl) rfl) pa_nil rfl) rfl) (nmk nms2 (i := 22) rfl).1 rfl rfl) rfl (.inl rfl)) (@pss_cons _ _ _ _ _ (@ps_if _ _ _ _ _ _ _ _ (@PW.pt _ _ _ (@pw_and _ _ _ _ _ _ _ (@pt_cmpR _ _ _ _ _ _ _ _ op_eq (@pe_ix _ _ _ _ _ _ _ ix_tup (@pvx _ _ _ 0 (.inl (lk ok_written_base (i := 1) rfl)) (nmk nms2 (i := 16) rfl) rfl) (@pn _ 0 _ _) (fun _ _ => rfl)) pe_str rfl) (@pw_and1 _ _ _ _ (@pt_cmpR _ _ _ _ _ _ _ _ op_in_seq (@pe_ix _ _ _ _ _ _ _ ix_tup (@pvx _ _ _ 0 (.inl (lk ok_written_base (i := 1) rfl)) (nmk nms2 (i := 16) rfl) rfl) (@pn _ 2 _ _) (fun _ _ => rfl)) (@pe_ix _ _ _ _ _ _ _ ix_tup (@pvx _ _ _ 0 (.inl (lk ok_written_base (i := 1) rfl)) (nmk nms2 (i := 16) rfl) rfl) (@pn _ 4 _ _) (fun _ _ => rfl)) rfl)))) (@pss_one _ _ _ (@ps_ret _ _ _ _ (@pvx _ _ _ 2 (.inl (lk ok_written_base (i := 3) rfl)) (nmk nms0 (i := 23) rfl) rfl))) pss_nil) (@pss_one _ _ _ (@ps_ret _ _ _ _ (@pe_op _ _ _ _ _ _ _ _ op_add_str (@pvx _ _ _ 2 (.inl (lk ok_written_base (i := 3) rfl)) (nmk nms0 (i := 23) rfl) rfl) pe_str))))), ?_⟩
  have hn : rN b a (reg r) := ⟨r, hr16, en, rfl⟩
  have l1 := rN_len hn
  refine ⟨_, rfl, _, rfl, p, a, b, reg r, rfl, ha, hi, hn, fun x H1 s1 ex lx => ?_⟩
  have lx' : x.length ≤ 3 := by rw [len_tl, ex]; exact l1
  obtain ⟨iv, po, hi, _, hv⟩ := hi.same s1
  rw [ei] at hv
  obtain ⟨q, rfl, hq⟩ := hv
  rw [en] at hi
  dsimp only [gName]
  show tSeq (tIfS _ _ _) _ _ _ _
  refine ifs (b := decide (b.name = "ldm") && l.contains r) ?_ ?_
  · refine p_and ?_ ?_
    · intro Q q'
      exact ⟨_, rfl, _, _, _, _, rfl, rfl, hi, atN (i := 0) rfl, rfl, _, bS Iff.rfl, q'⟩
    · intro Q q'
      refine ⟨_, rfl, _, _, _, _, rfl, rfl, hi, atN (i := 2) rfl, _, rfl, _, _, _, _, rfl, rfl, hi, atN (i := 4) rfl, q, _, rfl, .inr hq, rfl, flat_ints l, _, ?_, q'⟩
      show V.bl (inV (vN r) (l.map vN)) = _
      rw [inV_ints]
  · refine ite2 (fun c => ?_) (fun c => ?_)
    · rw [Bool.and_eq_true, decide_eq_true_eq] at c
      refine ⟨_, rfl, k x _ s1 ?_ (by omega)⟩
      rw [ex, if_pos c, List.append_nil]
    · rw [Bool.and_eq_true, decide_eq_true_eq] at c
      refine ⟨_, rfl, _, _, rfl, rfl, fits (by show x.length + 1 ≤ 10000; omega), k _ _ s1 ?_ ?_⟩
      · rw [tl_app, ex, if_neg c]
        rfl
      · rw [len_tl, tl_app, List.length_append, ← len_tl x]
        show x.length + 1 ≤ 100
        omega
theorem comma_eq : ∀ l : List (List Nat), TL.joinL (ascii ", ") l = comma l
  | [] => rfl
  | [x] => rfl
  | x :: y :: r => by
    show x ++ (ascii ", " ++ TL.joinL (ascii ", ") (y :: r)) = x ++ (ascii ", " ++ comma (y :: r))
    rw [comma_eq (y :: r)]
theorem join_tl (xs : List Str) : tl (Txt.join (", " : Str) xs) = comma (xs.map tl) := by
  rw [TL.join_eq]
  exact (TL.tl_join _ xs).trans (comma_eq _)
theorem sum_len {xs : List Str} {c : Nat} (h : ∀ x ∈ xs, x.length ≤ c) : (xs.map (·.length)).sum ≤ xs.length * c := by
  induction xs with
  | nil => simp
  | cons a r ih =>
    rw [List.map_cons, List.sum_cons, List.length_cons, Nat.add_mul, Nat.one_mul]
    have h1 := h a (List.mem_cons_self)
    have h2 := ih fun x hx => h x (List.mem_cons_of_mem _ hx)
    omega
theorem comma_len : ∀ (l : List (List Nat)) (c : Nat), (∀ x ∈ l, x.length ≤ c) → (comma l).length ≤ l.length * (c + 2)
  | [], c, _ => by show 0 ≤ _; omega
  | [x], c, h => by
    have := h x (List.mem_cons_self)
    show x.length ≤ 1 * (c + 2)
    omega
  | x :: y :: r, c, h => by
    have h1 := h x (List.mem_cons_self)
    have h2 := comma_len (y :: r) c fun z hz => h z (List.mem_cons_of_mem _ hz)
    show (x ++ (ascii ", " ++ comma (y :: r))).length ≤ _
    rw [List.length_append, List.length_append, List.length_cons (a := x), Nat.add_mul]
    show x.length + (2 + (comma (y :: r)).length) ≤ _
    omega
theorem fn_written_list (T : Txt K mg) : Fn P w K mg base "written_list" 1 ["instruction", "at"] (sp_wr K rL) := by
  refine wr_fn T.d_written_list sc_written_list (fun _ _ _ _ _ _ => ln2 (fun _ _ => rfl)) (fun f cdv A outer s H p a b t Q E hr ha hI hrel k => ?_)
  obtain ⟨iv, po, hi, _, hv⟩ := hI
  obtain ⟨l, ei, hl, hz, rfl⟩ := hrel
  rw [ei] at hv
  obtain ⟨q, rfl, hq⟩ := hv
  refine ⟨_, (@pss_one _ _ _ (@ps_ret _ _ _ _ (@pe_op _ _ _ _ _ _ _ _ op_add_str (@pe_op _ _ _ _ _ _ _ _ op_add_str pe_str (@pe_join _ _ _ _ _ _ _ pe_str (@pe_lc _ _ _ _ _ _ [("r", 2)] _ _ _ _ _ rfl sc_written_list.nd (@pi_tup _ _ _ _ (@pe_ix _ _ _ _ _ _ _ ix_tup (@pvx _ _ _ 0 (.inl (lk ok_written_list (i := 0) rfl)) (nmk nms2 (i := 16) rfl) rfl) (@pn _ 4 _ _) (fun _ _ => rfl))) blk_written_list (fun _ _ _ _ _ => pg_name (i := 2) sc_written_list.nd rfl (Or.inl rfl) (by first | exact .inl rfl | exact .inr rfl)) (fun _ _ _ _ _ => pts_nil) (fun _ _ _ _ _ => (@pe_ixTK _ K _ _ _ _ _ rfl (@pg_ref _ _ _ _ T.c_REGISTERS rfl (nmk nms2 (i := 20) rfl).1) (pv 2 rfl (by first | exact Or.inl rfl | exact Or.inr (Or.inl rfl) | exact Or.inr (Or.inr rfl)) rfl rfl) (fun _ _ => rfl))) (by intro _; rfl)) rfl rfl rfl)) pe_str))), ?_⟩
  refine ⟨⟨_, rfl⟩, _, rfl, _, _, _, _, rfl, rfl, hi, atN (i := 4) rfl, q, rfl, ⟨_, hq⟩, fun D hD => ?_⟩
  refine lc_tup (K := K) (a := q) (xs := l.map vN) (fun i H' => H' D = some (.lst (((l.take i).map fun r => regNames.getD r "").map V.str)) ∧ Same H H') ⟨upd_same, same_upd hD⟩ (fun i H' _ h => SqT.same h.2 hq) (fun i x H' hx h => ?_) (fun H' h => ?_)
  · rw [List.getElem?_map] at hx
    obtain ⟨r, er, rfl⟩ := Option.map_eq_some_iff.mp hx
    have hr16 := hl r (List.mem_of_getElem? er)
    refine ⟨rfl, ?_⟩
    dsimp only [tYes]
    rw [if_pos rfl]
    refine fun g hg => ⟨_, rfl, _, _, _, _, rfl, rfl, hg.sq, atN (names_at (L := regNames) hr16), _, h.1, ?_, upd_same.trans ?_, fun c o e => ?_⟩
    · rw [List.length_map, List.length_map, List.length_take]
      exact small_line (by omega)
    · rw [List.take_add_one, er, Option.toList_some, List.map_append, List.map_append]
      rfl
    · rw [upd_ne (ne_of_none e hD)]
      exact h.2 c o e
  · rw [List.length_map, List.take_length] at h
    have h1 : ∀ x ∈ l.map (fun r => regNames.getD r ""), x.length ≤ 3 := fun x hx => by
      obtain ⟨r, er, rfl⟩ := List.mem_map.mp hx
      exact (reg_tl (hl r er)).2
    have h2 := sum_len h1
    have h3 : (l.map (fun r => regNames.getD r "")).map tl = l.map reg := by
      rw [List.map_map]
      exact List.map_congr_left fun r hr => (reg_tl (hl r hr)).1
    rw [List.length_map] at h2
    refine ⟨_, D, _, rfl, rfl, .inl (.of h.1), ?_, ?_⟩
    · rw [List.length_map]
      show _ + l.length * 2 ≤ 16777216
      omega
    have e1 : tl (Txt.join (", " : Str) (l.map fun r => regNames.getD r "")) = comma (l.map reg) := by rw [join_tl, h3]
    have l1 : (tl (Txt.join (", " : Str) (l.map fun r => regNames.getD r ""))).length ≤ 45 := by
      rw [e1]
      have := comma_len (l.map reg) 3 fun x hx => by
        obtain ⟨r, er, rfl⟩ := List.mem_map.mp hx
        rw [← (reg_tl (hl r er)).1, ← len_tl]
        exact (reg_tl (hl r er)).2
      rw [List.length_map] at this
      omega
    refine ⟨_, _, rfl, rfl, fits (by show 1 + Str.length _ ≤ 10000; rw [len_tl]; omega), ?_⟩
    refine ⟨_, _, rfl, rfl, fits (by rw [len_tl, tl_app, List.length_append]; show 1 + _ + 1 ≤ 10000; omega), k _ _ h.2 ?_ ?_⟩
    · rw [tl_app, tl_app, e1]
      rfl
    · rw [len_tl, tl_app, tl_app, List.length_append, List.length_append]
      show 1 + _ + 1 ≤ 100
      omega
theorem fn_written_target (T : Txt K mg) : Fn P w K mg base "written_target" 2 ["instruction", "at"] (sp_wr K rT) := by
  have G_hexadecimal := fn_hexadecimal (P := P) (w := w) (base := base) T
  refine wr_fn T.d_written_target sc_written_target (fun _ _ _ _ _ _ => ln2 (fun _ _ => rfl)) (fun f cdv A outer s H p a b t Q E hr ha hI hrel k => ?_)
  obtain ⟨iv, po, hi, _, hv⟩ := hI
  obtain ⟨off, ei, rfl⟩ := hrel
  rw [ei] at hv
  have hv : iv = .int off := hv
  subst hv
  refine ⟨_, (@pss_one _ _ _ (@ps_ret _ _ _ _ (@pe_fn _ _ _ _ _ _ _ _ _ _ G_hexadecimal (hr.mono (by decide)) (lk ok_written_target (i := 0) rfl) (@pa_cons _ _ _ _ _ (@pe_op _ _ _ _ _ _ _ _ op_and (@pe_op _ _ _ _ _ _ _ _ op_add (@pe_op _ _ _ _ _ _ _ _ n_add (@pvx _ _ _ 1 (.inl (lk ok_written_target (i := 1) rfl)) (nmk nms2 (i := 21) rfl) rfl) (@pn _ 4 _ _)) (@pe_ix _ _ _ _ _ _ _ ix_tup (@pvx _ _ _ 0 (.inl (lk ok_written_target (i := 2) rfl)) (nmk nms2 (i := 16) rfl) rfl) (@pn _ 4 _ _) (fun _ _ => rfl))) (@pg_int _ _ _ _ T.c_WORD (lk ok_written_target (i := 3) rfl) (nmk nms3 (i := 0) rfl).1)) pa_nil rfl) (nmk nms3 (i := 1) rfl).1 rfl rfl))), ?_⟩
  refine ⟨_, rfl, _, _, rfl, rfl, _, rfl, _, _, _, _, rfl, rfl, hi, atN (i := 4) rfl, _, _, rfl, rfl, _, _, rfl, rfl, ?_⟩
  have e : Builtin.bitAnd (((a + 4 : Nat) : Int) + off) ((4294967295 : Nat) : Int) = (((((a + 4 : Nat) : Int) + off) % Sd12.W).toNat : Nat) := by
    show Builtin.bitAnd (((a + 4 : Nat) : Int) + off) 4294967295 = (((((a + 4 : Nat) : Int) + off) % 4294967296).toNat : Nat)
    rw [PyProof.Rows.bitAnd_m32]
    omega
  refine ⟨_, congrArg (fun z : Int => [V.int z]) e, ?_, fun x ex lx => ?_⟩
  · show ((((a + 4 : Nat) : Int) + off) % 4294967296).toNat < 2 ^ 32
    omega
  · exact k x _ (Same.refl _) ex (Nat.le_trans lx (by decide))
end
end Chip

namespace Chip
open PySem L2 LX
open Sd12 (reg imm hex comma braces ascii line)
section
variable {P : Program} {w : World} {K : PySem.W.Frag} {mg : Str → Option Value} {base : Heap}
noncomputable def idx (k : Str) : List Str → Option Nat
  | [] => none
  | x :: r => if k = x then some 0 else (idx k r).map (· + 1)
theorem datum_zip {k : Str} : ∀ {ks : List Str} {vs : List V} {i : Nat} {v : V}, idx k ks = some i → vs[i]? = some v → PyProof.Rows.KTD.datumAt k (ks.zip vs) = some v
  | [], _, _, _, h, _ => by cases h
  | x :: r, [], i, v, h, hv => by simp at hv
  | x :: r, y :: vs, i, v, h, hv => by
    show (if decide (k = x) = true then some y else PyProof.Rows.KTD.datumAt k (r.zip vs)) = some v
    unfold idx at h
    by_cases c : k = x
    · rw [if_pos c] at h
      cases h
      rw [if_pos (decide_eq_true c)]
      simpa using hv
    · rw [if_neg c] at h
      obtain ⟨j, hj, rfl⟩ := Option.map_eq_some_iff.mp h
      rw [if_neg (by simpa using c)]
      exact datum_zip hj (by simpa using hv)
theorem pick_tab {a : Addr} {fs : List Addr} {ks ns : List Str} {k x : Str} {i : Nat} (T : TabK K a (ks.zip (fs.map V.ref))) (hm : Paired (fun (f : Addr) (x : Str) => mg x = some (.ref f)) fs ns) (hi : idx k ks = some i) (hn : ns[i]? = some x) :
    ∃ f, mg x = some (.ref f) ∧ PyProof.Rows.KTD.datumAt k (ks.zip (fs.map V.ref)) = some (.ref f) := by
  obtain ⟨f, h1, h2⟩ := at_paired hm hn
  exact ⟨f, h2, datum_zip hi (map_ref h1)⟩
noncomputable def condNames : List Str := ["eq", "ne", "cs", "cc", "mi", "pl", "vs", "vc", "hi", "ls", "ge", "lt", "gt", "le"]
noncomputable def like (x : Str) : Str := if x = "ldr_pc" then "ldr" else if x = "add_pc" then "add" else x
noncomputable def rName (b : Ab) (t : List Nat) : Prop := (b.name = "b_if" ∧ ∃ c, c < 14 ∧ b.d = vN c ∧ t = ascii (Sd12.conds.getD c "")) ∨ (b.name ≠ "b_if" ∧ b.name.length ≤ 10 ∧ t = tl (like b.name))
noncomputable def sp_written_name (K : PySem.W.Frag) : Sp := fun vs H Q _ => ∃ (p : Addr) (b : Ab) (t : List Nat), vs = [.ref p] ∧ InsAt K H p b ∧ rName b t ∧ ∀ x, tl x = t → x.length ≤ 10 → Q (.str x) H
theorem cond_tl {c : Nat} (h : c < 14) : tl (("b" : Str) ++ condNames.getD c "") = ascii (Sd12.conds.getD c "") ∧ (("b" : Str) ++ condNames.getD c "").length ≤ 10 ∧ ("b" : Str).length + (condNames.getD c "").length ≤ 10 := by
  have all : ∀ j : _root_.Fin 14, tl (("b" : Str) ++ condNames.getD j.1 "") = ascii (Sd12.conds.getD j.1 "") ∧ (("b" : Str) ++ condNames.getD j.1 "").length ≤ 10 ∧ ("b" : Str).length + (condNames.getD j.1 "").length ≤ 10 := by decide +kernel
  exact all ⟨c, h⟩
theorem fn_written_name (T : Txt K mg) : Fn P w K mg base "written_name" 1 ["instruction"] (sp_written_name K) := by
  refine T.d_written_name.fn sc_written_name (fun _ _ _ _ _ _ => ln1 (fun _ => rfl)) (fun vs H Q E h => ?_) (fun f cdv A outer s H vs Q E hr h => ?_)
  · obtain ⟨p, b, t, rfl, _⟩ := h
    rfl
  obtain ⟨p, b, t, rfl, ⟨iv, po, hi, _⟩, hrel, k⟩ := h
  refine ⟨_, (@pss_cons _ _ _ _ _ (@ps_set _ _ 1 _ _ _ _ sc_written_name.nd rfl (Or.inl (lk ok_written_name (i := 1) rfl)) (@pe_ix _ _ _ _ _ _ _ ix_tup (@pvx _ _ _ 0 (.inl (lk ok_written_name (i := 0) rfl)) (nmk nms2 (i := 16) rfl) rfl) (@pn _ 0 _ _) (fun _ _ => rfl)) rfl (.inl rfl)) (@pss_cons _ _ _ _ _ (@ps_if _ _ _ _ _ _ _ _ (@pt_cmpR _ _ _ _ _ _ _ _ op_eq (@pvx _ _ _ 1 (.inl (lk ok_written_name (i := 1) rfl)) (nmk nms0 (i := 18) rfl) rfl) pe_str rfl) (@pss_one _ _ _ (@ps_ret _ _ _ _ (@pe_op _ _ _ _ _ _ _ _ op_add_str pe_str (@pe_ix _ _ _ _ _ _ _ ix_tup (@pg_ref _ _ _ _ T.c_CONDITIONS (lk ok_written_name (i := 2) rfl) (nmk nms3 (i := 2) rfl).1) (@pe_ix _ _ _ _ _ _ _ ix_tup (@pvx _ _ _ 0 (.inl (lk ok_written_name (i := 0) rfl)) (nmk nms2 (i := 16) rfl) rfl) (@pn _ 1 _ _) (fun _ _ => rfl)) (fun _ _ => rfl))))) pss_nil) (@pss_one _ _ _ (@ps_ret _ _ _ _ (@pe_tab2 _ _ _ _ _ _ _ _ _ (@pg_ref _ _ _ _ T.c_WRITTEN_LIKE (lk ok_written_name (i := 3) rfl) (nmk nms3 (i := 3) rfl).1) (@pvx _ _ _ 1 (.inl (lk ok_written_name (i := 1) rfl)) (nmk nms0 (i := 18) rfl) rfl) (@pvx _ _ _ 1 (.inl (lk ok_written_name (i := 1) rfl)) (nmk nms0 (i := 18) rfl) rfl) ⟨rfl, rfl, rfl, rfl⟩))))), ?_⟩
  refine ⟨_, rfl, _, _, _, _, rfl, rfl, hi, atN (i := 0) rfl, ?_⟩
  refine ⟨_, rfl, rfl, _, bS Iff.rfl, ?_⟩
  refine ite2 (fun c => ?_) (fun c => ?_)
  · rw [decide_eq_true_eq] at c
    rcases hrel with ⟨_, cc, hc, ed, rfl⟩ | ⟨no, _⟩
    · rw [ed] at hi
      refine fun q hq => ⟨_, rfl, _, _, _, _, rfl, rfl, hi, atN (i := 1) rfl, _, _, _, _, rfl, rfl, hq.sq, atN (names_at (L := condNames) hc), ?_⟩
      exact ⟨_, _, rfl, rfl, fits (Nat.le_trans (cond_tl hc).2.2 (by decide)), k _ (cond_tl hc).1 (cond_tl hc).2.1⟩
    · exact absurd c no
  · rw [decide_eq_true_eq] at c
    rcases hrel with ⟨yes, _⟩ | ⟨_, hl, rfl⟩
    · exact absurd yes c
    · refine fun q hq => ⟨_, _, rfl, hq, _, rfl, _, rfl, _, rfl, ?_⟩
      have e : (PyProof.Rows.KTD.datumAt b.name [(("ldr_pc" : Str), V.str "ldr"), ("add_pc", V.str "add")]).getD (V.str b.name) = V.str (like b.name) := by
        unfold like
        show ((if decide (b.name = "ldr_pc") = true then some (V.str "ldr") else if decide (b.name = "add_pc") = true then some (V.str "add") else none).getD _) = _
        by_cases c1 : b.name = "ldr_pc"
        · rw [if_pos (decide_eq_true c1), if_pos c1]; rfl
        · rw [if_neg (by simpa using c1), if_neg c1]
          by_cases c2 : b.name = "add_pc"
          · rw [if_pos (decide_eq_true c2), if_pos c2]; rfl
          · rw [if_neg (by simpa using c2), if_neg c2]; rfl
      rw [e]
      refine k _ rfl ?_
      unfold like
      split
      · decide +kernel
      · split
        · decide +kernel
        · exact hl
noncomputable def wordKeys : List Str := ["d", "n", "second", "zero", "place", "base", "list", "target"]
noncomputable def wordDefs : List Str := ["written_d", "written_n", "written_second", "written_zero", "written_place", "written_base", "written_list", "written_target"]
inductive OpR (b : Ab) (a : Nat) : Str → List Nat → Prop
  | d {t} : rD b a t → OpR b a "d" t
  | n {t} : rN b a t → OpR b a "n" t
  | second {t} : rS b a t → OpR b a "second" t
  | zero {t} : rZ b a t → OpR b a "zero" t
  | place {t} : rP b a t → OpR b a "place" t
  | base {t} : rB b a t → OpR b a "base" t
  | list {t} : rL b a t → OpR b a "list" t
  | target {t} : rT b a t → OpR b a "target" t
theorem pick_word (T : Txt K mg) {b : Ab} {a : Nat} {x : Str} {t : List Nat} (h : OpR b a x t) : ∃ i y rel, idx x wordKeys = some i ∧ wordDefs[i]? = some y ∧ Fn P w K mg base y 2 ["instruction", "at"] (sp_wr K rel) ∧ rel b a t := by
  cases h with
  | d h => exact ⟨0, _, _, by decide +kernel, rfl, (fn_written_d T).mono (by decide), h⟩
  | n h => exact ⟨1, _, _, by decide +kernel, rfl, (fn_written_n T).mono (by decide), h⟩
  | second h => exact ⟨2, _, _, by decide +kernel, rfl, (fn_written_second T).mono (by decide), h⟩
  | zero h => exact ⟨3, _, _, by decide +kernel, rfl, (fn_written_zero T).mono (by decide), h⟩
  | place h => exact ⟨4, _, _, by decide +kernel, rfl, fn_written_place T, h⟩
  | base h => exact ⟨5, _, _, by decide +kernel, rfl, fn_written_base T, h⟩
  | list h => exact ⟨6, _, _, by decide +kernel, rfl, (fn_written_list T).mono (by decide), h⟩
  | target h => exact ⟨7, _, _, by decide +kernel, rfl, fn_written_target T, h⟩
noncomputable def lineT (nm : List Nat) (ts : List (List Nat)) : List Nat := nm ++ (if ts = [] then [] else 32 :: comma ts)
noncomputable def sp_instruction_text (K : PySem.W.Frag) : Sp := fun vs H Q _ => ∃ (p : Addr) (a : Nat) (b : Ab) (nm : List Nat) (ts : List (List Nat)), vs = [.ref p, vN a] ∧ a < 65536 ∧ InsAt K H p b ∧ rName b nm ∧ b.ops.length ≤ 3 ∧ Paired (OpR b a) b.ops ts ∧
  ∀ x H', Same H H' → tl x = lineT nm ts → x.length ≤ 1000 → Q (.str x) H'
theorem paired_get {α β : Type} {R : α → β → Prop} : ∀ {l : List α} {m : List β}, Paired R l m → ∀ {i : Nat} {x : α}, l[i]? = some x → ∃ y, m[i]? = some y ∧ R x y
  | _, _, .nil, i, y, e => by simp at e
  | _, _, .cons r t, 0, y, e => by
    simp at e
    subst e
    exact ⟨_, rfl, r⟩
  | _, _, .cons r t, i + 1, y, e => by
    obtain ⟨x, h1, h2⟩ := paired_get t (i := i) (x := y) (by simpa using e)
    exact ⟨x, by simpa using h1, h2⟩
theorem fn_instruction_text (T : Txt K mg) : Fn P w K mg base "instruction_text" 3 ["instruction", "at"] (sp_instruction_text K) := by
  have G_written_name := fn_written_name (P := P) (w := w) (base := base) T
  refine T.d_instruction_text.fn sc_instruction_text (fun _ _ _ _ _ _ => ln2 (fun _ _ => rfl)) (fun vs H Q E h => ?_) (fun f cdv A outer s H vs Q E hr h => ?_)
  · obtain ⟨p, a, b, nm, ts, rfl, _⟩ := h
    rfl
  obtain ⟨p, a, b, nm, ts, rfl, ha, hI, hn, h3, hp, k⟩ := h
  have hlen : b.ops.length = ts.length := Paired.length hp
  refine ⟨_, (@pss_cons _ _ _ _ _ (@ps_set _ _ 2 _ _ _ _ sc_instruction_text.nd rfl (Or.inl (lk ok_instruction_text (i := 2) rfl)) (@pe_fn _ _ _ _ _ _ _ _ _ _ G_written_name (hr.mono (by decide)) (lk ok_instruction_text (i := 0) rfl) (@pa_cons _ _ _ _ _ (@pvx _ _ _ 0 (.inr (.inl (lk ok_instruction_text (i := 1) rfl))) (nmk nms2 (i := 16) rfl) rfl) pa_nil rfl) (nmk nms3 (i := 4) rfl).1 rfl rfl) rfl (.inl rfl)) (@pss_cons _ _ _ _ _ (@ps_setLc _ 3 _ _ _ _ _ _ _ [("word", 4)] _ _ _ _ _ _ rfl sc_instruction_text.nd rfl rfl (sw_true rfl rfl rfl (by decide +kernel)) (@pi_tup _ _ _ _ (@pe_ix _ _ _ _ _ _ _ ix_tup (@pvx _ _ _ 0 (.inr (.inl (lk ok_instruction_text (i := 1) rfl))) (nmk nms2 (i := 16) rfl) rfl) (@pn _ 5 _ _) (fun _ _ => rfl))) blk_instruction_text (fun _ _ _ _ _ => pg_name (i := 4) sc_instruction_text.nd rfl (Or.inl rfl) (by first | exact .inl rfl | exact .inr rfl)) (fun _ _ _ _ _ => pts_nil) (fun _ _ _ _ _ => (@pe_dynK _ P w K mg base 2 _ _ _ _ _ _ rfl rfl rfl rfl rfl (@pe_tabK _ K _ _ _ _ _ rfl (@pg_ref _ _ _ _ T.c_WRITERS rfl (nmk nms3 (i := 5) rfl).1) (pv 4 rfl (by first | exact Or.inl rfl | exact Or.inr (Or.inl rfl) | exact Or.inr (Or.inr rfl)) rfl rfl) (fun _ _ => rfl)) (hr.mono (by decide)) (@pa_cons _ _ _ _ _ (pv 0 rfl (by first | exact Or.inl rfl | exact Or.inr (Or.inl rfl) | exact Or.inr (Or.inr rfl)) rfl rfl) (@pa_cons _ _ _ _ _ (pv 1 rfl (by first | exact Or.inl rfl | exact Or.inr (Or.inl rfl) | exact Or.inr (Or.inr rfl)) rfl rfl) pa_nil rfl) rfl) rfl rfl rfl)) (by intro _; rfl)) (@pss_cons _ _ _ _ _ (@ps_if _ _ _ _ _ _ _ _ (@pt_cmpR _ _ _ _ _ _ _ _ op_eq (@pe_callB _ _ _ _ _ _ _ _ _ call_len_seq (lk ok_instruction_text (i := 3) rfl) T.n_len PySem.boot_len (@pa_cons _ _ _ _ _ (@pvx _ _ _ 3 (.inl (lk ok_instruction_text (i := 4) rfl)) (nmk nms3 (i := 6) rfl) rfl) pa_nil rfl) nn_len (nmk nms0 (i := 0) rfl).1 rfl rfl) (@pn _ 0 _ _) rfl) (@pss_one _ _ _ (@ps_ret _ _ _ _ (@pvx _ _ _ 2 (.inl (lk ok_instruction_text (i := 2) rfl)) (nmk nms0 (i := 18) rfl) rfl))) pss_nil) (@pss_one _ _ _ (@ps_ret _ _ _ _ (@pe_op _ _ _ _ _ _ _ _ op_add_str (@pe_op _ _ _ _ _ _ _ _ op_add_str (@pvx _ _ _ 2 (.inl (lk ok_instruction_text (i := 2) rfl)) (nmk nms0 (i := 18) rfl) rfl) pe_str) (@pe_join _ _ _ _ _ _ _ pe_str (@pvx _ _ _ 3 (.inl (lk ok_instruction_text (i := 4) rfl)) (nmk nms3 (i := 6) rfl) rfl) rfl rfl rfl))))))), ?_⟩
  refine ⟨_, rfl, p, b, nm, rfl, hI, hn, fun nx enx lnx => ?_⟩
  obtain ⟨iv, po, hi, ho, _⟩ := id hI
  refine ⟨_, rfl, _, _, _, _, rfl, rfl, hi, atN (i := 5) rfl, po, rfl, ⟨_, ho⟩, fun D hD => ?_⟩
  refine lc_tup (K := K) (a := po) (xs := b.ops.map V.str) (fun i H' => ∃ xs : List Str, H' D = some (.lst (xs.map V.str)) ∧ xs.map tl = ts.take i ∧ (∀ x ∈ xs, x.length ≤ 100) ∧ Same H H') ⟨[], upd_same, rfl, fun _ h => by simp at h, same_upd hD⟩
    (fun i H' _ h => let ⟨_, _, _, _, s1⟩ := h; SqT.same s1 ho) (fun i x H' hx h => ?_) (fun H' h => ?_)
  · obtain ⟨xs, h1, h2, h4, s1⟩ := h
    rw [List.getElem?_map] at hx
    obtain ⟨wd, ew, rfl⟩ := Option.map_eq_some_iff.mp hx
    obtain ⟨t, et, hop⟩ := paired_get hp ew
    obtain ⟨j, y, rel, hj, hy, F, hrel⟩ := pick_word (P := P) (w := w) (base := base) T hop
    refine ⟨rfl, ?_⟩
    dsimp only [tYes]
    rw [if_pos rfl]
    refine fun q hq => ⟨_, rfl, ?_⟩
    obtain ⟨fs, hk, hm⟩ := hq
    obtain ⟨g, hmg, hd⟩ := pick_tab hk hm hj hy
    refine ⟨_, _, _, _, rfl, rfl, hk, hd, g, _, rfl, ⟨_, F.can hmg⟩, ?_⟩
    refine ⟨_, rfl, _, rfl, p, a, b, t, rfl, ha, hI.same s1, hrel, fun z H2 s2 ez lz => ?_⟩
    have hlx : xs.length ≤ 3 := by
      have z1 := congrArg List.length h2
      rw [List.length_map, List.length_take] at z1
      omega
    refine ⟨_, s2 _ _ h1, by rw [List.length_map]; exact small_line (by omega), xs ++ [z], upd_same.trans (by rw [List.map_append]; rfl), ?_, ?_, fun c o e => ?_⟩
    · rw [List.map_append, h2, List.take_add_one, et, ← ez]
      rfl
    · intro x hx
      rcases List.mem_append.mp hx with hx | hx
      · exact h4 x hx
      · rw [List.mem_singleton.mp hx]; exact lz
    · rw [upd_ne (ne_of_none e hD)]
      exact s2 _ _ (s1 c o e)
  · obtain ⟨xs, h1, h2, h4, s1⟩ := h
    rw [List.length_map, List.take_of_length_le (by omega)] at h2
    have hlx : xs.length = ts.length := by
      have z1 := congrArg List.length h2
      rw [List.length_map] at z1
      exact z1
    have eb : V.bl (decide (V.int (((xs.map V.str).length : Nat) : Int) = V.int ((0 : Nat) : Int))) = V.bl (decide (xs.length = 0)) := by
      rw [List.length_map]
      exact bN xs.length 0
    refine ⟨_, rfl, _, _, rfl, .inl (.of h1), rfl, _, eb, ?_⟩
    refine ite2 (fun c => ?_) (fun c => ?_)
    · rw [decide_eq_true_eq] at c
      refine ⟨_, rfl, k nx _ s1 ?_ (by omega)⟩
      have e0 : ts = [] := List.length_eq_zero_iff.mp (by omega)
      unfold lineT
      rw [if_pos e0, List.append_nil]
      exact enx
    · rw [decide_eq_true_eq] at c
      have e0 : ts ≠ [] := fun z => c (by rw [hlx, z]; rfl)
      have e1 : tl (nx ++ (" " : Str)) = nm ++ [32] := by rw [tl_app, enx]; rfl
      refine ⟨_, rfl, _, _, rfl, rfl, fits (by show nx.length + 1 ≤ 10000; omega), ⟨_, rfl⟩, _, rfl, _, D, xs, rfl, rfl, .inl (.of h1), ?_, ?_⟩
      · have := sum_len h4
        show _ + xs.length * 2 ≤ 16777216
        omega
      have e2 : tl (Txt.join (", " : Str) xs) = comma ts := by rw [join_tl, h2]
      have l2 : (comma ts).length ≤ 306 := by
        have z1 := comma_len ts 100 fun x hx => by
          rw [← h2] at hx
          obtain ⟨y, hy, rfl⟩ := List.mem_map.mp hx
          rw [← len_tl]
          exact h4 y hy
        omega
      have l1 : nm.length ≤ 10 := by rw [← enx, ← len_tl]; exact lnx
      refine ⟨_, _, rfl, rfl, fits (by rw [len_tl, len_tl, e1, e2, List.length_append]; show nm.length + 1 + _ ≤ 10000; omega), k _ _ s1 ?_ ?_⟩
      · rw [tl_app, e1, e2]
        unfold lineT
        rw [if_neg e0, List.append_assoc]
        rfl
      · rw [len_tl, tl_app, e1, e2, List.length_append, List.length_append]
        show nm.length + 1 + _ ≤ 1000
        omega
noncomputable def sp_half_text : Sp := fun vs H Q _ => ∃ h : Nat, vs = [vN h] ∧ h < 65536 ∧ ∀ x, tl x = line "half" [hex h] → x.length ≤ 1000 → Q (.str x) H
theorem fn_half_text (T : Txt K mg) : Fn P w K mg base "half_text" 2 ["half"] sp_half_text := by
  have G_hexadecimal := fn_hexadecimal (P := P) (w := w) (base := base) T
  refine T.d_half_text.fn sc_half_text (fun _ _ _ _ _ _ => ln1 (fun _ => rfl)) (fun vs H Q E h => ?_) (fun f cdv A outer s H vs Q E hr h => ?_)
  · obtain ⟨p, rfl, _⟩ := h
    rfl
  obtain ⟨h, rfl, hh, k⟩ := h
  refine ⟨_, (@pss_one _ _ _ (@ps_ret _ _ _ _ (@pe_op _ _ _ _ _ _ _ _ op_add_str pe_str (@pe_fn _ _ _ _ _ _ _ _ _ _ G_hexadecimal (hr.mono (by decide)) (lk ok_half_text (i := 0) rfl) (@pa_cons _ _ _ _ _ (@pvx _ _ _ 0 (.inl (lk ok_half_text (i := 1) rfl)) (nmk nms0 (i := 15) rfl) rfl) pa_nil rfl) (nmk nms3 (i := 1) rfl).1 rfl rfl)))), ?_⟩
  refine ⟨_, rfl, h, rfl, by omega, fun x ex lx => ?_⟩
  refine ⟨_, _, rfl, rfl, fits (by show 5 + x.length ≤ 10000; omega), k _ ?_ ?_⟩
  · rw [tl_app, ex]
    rfl
  · rw [len_tl, tl_app, List.length_append, ← len_tl x]
    show 5 + x.length ≤ 1000
    omega
noncomputable def sp_bytes_of_text : Sp := fun vs H Q _ => ∃ x : Str, vs = [.str x] ∧ x.length ≤ 1000 ∧ ∀ l H', Same H H' → H' l = some (.lst ((tl x).map vN)) → Q (.ref l) H'
theorem fn_bytes_of_text (T : Txt K mg) : Fn P w K mg base "bytes_of_text" 1 ["text"] sp_bytes_of_text := by
  refine T.d_bytes_of_text.fn sc_bytes_of_text (fun _ _ _ _ _ _ => ln1 (fun _ => rfl)) (fun vs H Q E h => ?_) (fun f cdv A outer s H vs Q E hr h => ?_)
  · obtain ⟨p, rfl, _⟩ := h
    rfl
  obtain ⟨x, rfl, hx, k⟩ := h
  refine ⟨_, (@pss_one _ _ _ (@ps_ret _ _ _ _ (@pe_lc _ _ _ _ _ _ [("sign", 1)] _ _ _ _ _ rfl sc_bytes_of_text.nd (@pi_str _ _ _ _ (@pvx _ _ _ 0 (.inl (lk ok_bytes_of_text (i := 0) rfl)) (nmk nms3 (i := 13) rfl) rfl)) blk_bytes_of_text (fun _ _ _ _ _ => pg_name (i := 1) sc_bytes_of_text.nd rfl (Or.inl rfl) (by first | exact .inl rfl | exact .inr rfl)) (fun _ _ _ _ _ => pts_nil) (fun _ _ _ _ _ => (@pe_callB _ _ _ _ _ _ _ _ _ call_ord rfl T.n_ord is_ord (@pa_cons _ _ _ _ _ (pv 1 rfl (by first | exact Or.inl rfl | exact Or.inr (Or.inl rfl) | exact Or.inr (Or.inr rfl)) rfl rfl) pa_nil rfl) nn_ord (nmk nms0 (i := 1) rfl).1 rfl rfl)) (by intro _; rfl)))), ?_⟩
  refine ⟨_, rfl, x, rfl, fun D hD => ?_⟩
  refine lc_str (x := x) (fun i H' => H' D = some (.lst (((tl x).take i).map vN)) ∧ Same H H') ⟨upd_same, same_upd hD⟩ (fun i c H' hc h => ?_) (fun H' h => ?_)
  · have hc' : (tl x)[i]? = some c := by rw [← hc]; simp
    refine ⟨rfl, ?_⟩
    dsimp only [tYes]
    rw [if_pos rfl]
    refine ⟨_, rfl, _, rfl, rfl, _, h.1, ?_, upd_same.trans ?_, fun c' o e => ?_⟩
    · rw [List.length_map, List.length_take, ← len_tl]
      exact Nat.lt_of_le_of_lt (Nat.le_trans (Nat.min_le_right _ _) hx) (by decide)
    · rw [List.take_add_one, hc', Option.toList_some, List.map_append]
      rfl
    · rw [upd_ne (ne_of_none e hD)]
      exact h.2 c' o e
  · refine k D H' h.2 (h.1.trans ?_)
    rw [List.take_of_length_le (by simp)]
noncomputable def sp_length_of (K : PySem.W.Frag) : Sp := fun vs H Q _ => ∃ (p : Addr) (b : Ab), vs = [.ref p] ∧ InsAt K H p b ∧ ∀ H', Same H H' → Q (vN (if b.name = "bl" ∨ b.name = "barrier" then 4 else 2)) H'
theorem fn_length_of (T : Txt K mg) : Fn P w K mg base "length_of" 1 ["instruction"] (sp_length_of K) := by
  refine T.d_length_of.fn sc_length_of (fun _ _ _ _ _ _ => ln1 (fun _ => rfl)) (fun vs H Q E h => ?_) (fun f cdv A outer s H vs Q E hr h => ?_)
  · obtain ⟨p, b, rfl, _⟩ := h
    rfl
  obtain ⟨p, b, rfl, ⟨iv, po, hi, _⟩, k⟩ := h
  refine ⟨_, (@pss_one _ _ _ (@ps_ret _ _ _ _ (@pe_ifExp _ _ _ _ _ _ _ _ (@pt_cmpR _ _ _ _ _ _ _ _ op_in_seq (@pe_ix _ _ _ _ _ _ _ ix_tup (@pvx _ _ _ 0 (.inl (lk ok_length_of (i := 0) rfl)) (nmk nms2 (i := 16) rfl) rfl) (@pn _ 0 _ _) (fun _ _ => rfl)) (@pe_tup _ _ _ _ _ (@pa_cons _ _ _ _ _ pe_str (@pa_cons _ _ _ _ _ pe_str pa_nil rfl) rfl)) rfl) (@pn _ 4 _ _) (@pn _ 2 _ _)))), ?_⟩
  refine ⟨_, rfl, _, _, _, _, rfl, rfl, hi, atN (i := 0) rfl, by show 2 ≤ sizeLine; decide, fun q hq => ?_⟩
  have e : inV (V.str b.name) [.str "bl", .str "barrier"] = decide (b.name = "bl" ∨ b.name = "barrier") := by
    show ((("bl" : Str) == b.name) || ((("barrier" : Str) == b.name) || false)) = _
    rw [Bool.eq_iff_iff]
    simp only [Bool.or_eq_true, beq_iff_eq, decide_eq_true_eq, Bool.or_false]
    constructor
    · rintro (z | z)
      · exact .inl z.symm
      · exact .inr z.symm
    · rintro (z | z)
      · exact .inl z.symm
      · exact .inr z.symm
  refine ⟨_, _, rfl, .inr (.of upd_same), rfl, rfl, _, congrArg V.bl e, ?_⟩
  have z := k _ (same_upd hq (o := .tup [.str "bl", .str "barrier"]))
  refine ite2 (fun c => ?_) (fun c => ?_)
  · rw [decide_eq_true_eq] at c
    rw [if_pos c] at z
    exact z
  · rw [decide_eq_true_eq] at c
    rw [if_neg c] at z
    exact z
end
end Chip

namespace Chip
open PySem L2 LX
open Sd12 (reg imm hex comma braces ascii line)
noncomputable def good (x : Str) (s : String) (lg : Bool) : Prop := x ≠ "b_if" ∧ x.length ≤ 10 ∧ tl (like x) = ascii s ∧ (x = "bl" ∨ x = "barrier" ↔ lg = true) ∧ x ≠ "none"
noncomputable def okNames (l : List Str) (m : List String) : Prop := ∀ j, j < l.length → good (l.getD j "") (m.getD j "") false
theorem ok_shift : okNames shiftNames ["lsls", "lsrs", "asrs"] := by unfold okNames good; decide +kernel
theorem ok_byte : okNames byteNames ["movs", "cmp", "adds", "subs"] := by unfold okNames good; decide +kernel
theorem ok_low : okNames lowNames Sd12.aluNames := by unfold okNames good; decide +kernel
theorem ok_high : okNames highNames ["add", "cmp", "mov"] := by unfold okNames good; decide +kernel
theorem ok_mem : okNames memNames Sd12.memNames := by unfold okNames good; decide +kernel
theorem ok_ext : okNames extNames ["sxth", "sxtb", "uxth", "uxtb"] := by unfold okNames good; decide +kernel
theorem ok_turn : ∀ j, j < 4 → j ≠ 2 → good (turnNames.getD j "") (if j = 0 then "rev" else if j = 1 then "rev16" else "revsh") false := by unfold good; decide +kernel
noncomputable def someNames : List Str := ["movs", "adds", "subs", "bx", "blx", "ldr_pc", "add_pc", "add", "sub", "push", "pop", "stm", "ldm", "b", "svc", "bkpt", "nop"]
theorem ok_some : okNames someNames ["movs", "adds", "subs", "bx", "blx", "ldr", "add", "add", "sub", "push", "pop", "stm", "ldm", "b", "svc", "bkpt", "nop"] := by unfold okNames good; decide +kernel
theorem ok_bl : good "bl" "bl" true := by unfold good; decide +kernel
theorem ok_bar : good "barrier" "barrier" true := by unfold good; decide +kernel
theorem gd (j : Nat) (h : j < 17) : good (someNames.getD j "") (["movs", "adds", "subs", "bx", "blx", "ldr", "add", "add", "sub", "push", "pop", "stm", "ldm", "b", "svc", "bkpt", "nop"].getD j "") false := ok_some j h
noncomputable def Tx (b : Ab) (a : Nat) (lg : Bool) (t : List Nat) : Prop := (b.name = "bl" ∨ b.name = "barrier" ↔ lg = true) ∧ b.name ≠ "none" ∧ ∃ nm ts, rName b nm ∧ b.ops.length ≤ 3 ∧ Paired (OpR b a) b.ops ts ∧ t = lineT nm ts
section
variable {a k : Nat} {lg : Bool} {x : Str} {s : String} {d n m : Nat} {vd vn vm : V} {ops : List Str} {vi : Int ⊕ List Nat} {l : List Nat} {c p : Prop} [Decidable c] {b b' : Ab} {t t' : List Nat}
theorem tx {ts : List (List Nat)} (h : good b.name s lg) (h3 : b.ops.length ≤ 3) (p : Paired (OpR b a) b.ops ts) (e : t = lineT (ascii s) ts) : Tx b a lg t := ⟨h.2.2.2.1, h.2.2.2.2, ascii s, ts, .inr ⟨h.1, h.2.1, h.2.2.1.symm⟩, h3, p, e⟩
theorem tx_if (h : c → Tx b a lg t) (h' : ¬ c → Tx b' a lg t') : Tx (if c then b else b') a lg (if c then t else t') := by
  by_cases hc : c
  · rw [if_pos hc, if_pos hc]; exact h hc
  · rw [if_neg hc, if_neg hc]; exact h' hc
theorem op_d (h : d < 16) : OpR ⟨x, vN d, vn, vm, vi, ops⟩ a "d" (reg d) := .d ⟨d, h, rfl, rfl⟩
theorem op_n (h : n < 16) : OpR ⟨x, vd, vN n, vm, vi, ops⟩ a "n" (reg n) := .n ⟨n, h, rfl, rfl⟩
theorem op_m (h : m < 16) : OpR ⟨x, vd, vn, vN m, vi, ops⟩ a "second" (reg m) := .second (.inl ⟨m, h, rfl, rfl⟩)
theorem op_k (h : k < 1048576) : OpR ⟨x, vd, vn, .non, .inl (k : Nat), ops⟩ a "second" (imm k) := .second (.inr ⟨rfl, k, h, rfl, rfl⟩)
theorem op_l (h : (∀ r ∈ l, r < 16) ∧ l.length ≤ 9) : OpR ⟨x, vd, vn, vm, .inr l, ops⟩ a "list" (braces l) := .list ⟨l, rfl, h.1, h.2, rfl⟩
theorem tx_dnm (g : good x s lg) (hd : d < 16) (hn : n < 16) (hm : m < 16) : Tx ⟨x, vN d, vN n, vN m, vi, ["d", "n", "second"]⟩ a lg (line s [reg d, reg n, reg m]) := tx g (Nat.le_refl 3) (.cons (op_d hd) (.cons (op_n hn) (.cons (op_m hm) .nil))) rfl
theorem tx_dnk (g : good x s lg) (hd : d < 16) (hn : n < 16) (hk : k < 1048576) : Tx ⟨x, vN d, vN n, .non, .inl (k : Nat), ["d", "n", "second"]⟩ a lg (line s [reg d, reg n, imm k]) := tx g (Nat.le_refl 3) (.cons (op_d hd) (.cons (op_n hn) (.cons (op_k hk) .nil))) rfl
theorem tx_dm (g : good x s lg) (hd : d < 16) (hm : m < 16) : Tx ⟨x, vN d, vn, vN m, vi, ["d", "second"]⟩ a lg (line s [reg d, reg m]) := tx g (Nat.le_succ 2) (.cons (op_d hd) (.cons (op_m hm) .nil)) rfl
theorem tx_dk (g : good x s lg) (hd : d < 16) (hk : k < 1048576) : Tx ⟨x, vN d, vn, .non, .inl (k : Nat), ["d", "second"]⟩ a lg (line s [reg d, imm k]) := tx g (Nat.le_succ 2) (.cons (op_d hd) (.cons (op_k hk) .nil)) rfl
theorem tx_m (g : good x s lg) (hm : m < 16) : Tx ⟨x, vd, vn, vN m, vi, ["second"]⟩ a lg (line s [reg m]) := tx g (Nat.le_add_left 1 2) (.cons (op_m hm) .nil) rfl
theorem tx_k (g : good x s lg) (hk : k < 1048576) : Tx ⟨x, vd, vn, .non, .inl (k : Nat), ["second"]⟩ a lg (line s [imm k]) := tx g (Nat.le_add_left 1 2) (.cons (op_k hk) .nil) rfl
theorem tx_pm (g : good x s lg) (hd : d < 16) (hn : n < 16) (hm : m < 16) : Tx ⟨x, vN d, vN n, vN m, vi, ["d", "place"]⟩ a lg (line s [reg d, 91 :: (reg n ++ (ascii ", " ++ (reg m ++ [93])))]) := tx g (Nat.le_succ 2) (.cons (op_d hd) (.cons (.place ⟨_, _, ⟨n, hn, rfl, rfl⟩, .inl ⟨m, hm, rfl, rfl⟩, rfl⟩) .nil)) rfl
theorem tx_pk (g : good x s lg) (hd : d < 16) (hn : n < 16) (hk : k < 1048576) : Tx ⟨x, vN d, vN n, .non, .inl (k : Nat), ["d", "place"]⟩ a lg (line s [reg d, 91 :: (reg n ++ (ascii ", " ++ (imm k ++ [93])))]) := tx g (Nat.le_succ 2) (.cons (op_d hd) (.cons (.place ⟨_, _, ⟨n, hn, rfl, rfl⟩, .inr ⟨rfl, k, hk, rfl, rfl⟩, rfl⟩) .nil)) rfl
theorem tx_l (g : good x s lg) (h : (∀ r ∈ l, r < 16) ∧ l.length ≤ 9) : Tx ⟨x, vd, vn, vm, .inr l, ["list"]⟩ a lg (line s [braces l]) := tx g (Nat.le_add_left 1 2) (.cons (op_l h) .nil) rfl
theorem tx_t {off : Int} (g : good x s lg) : Tx ⟨x, vd, vn, vm, .inl off, ["target"]⟩ a lg (line s [hex ((((a + 4 : Nat) : Int) + off) % Sd12.W).toNat]) := tx g (Nat.le_add_left 1 2) (.cons (.target ⟨off, rfl, rfl⟩) .nil) rfl
theorem tx_0 (g : good x s lg) : Tx ⟨x, vd, vn, vm, vi, []⟩ a lg (ascii s) := tx g (Nat.zero_le 3) .nil (List.append_nil _).symm
theorem if_iff {α : Type} {c p : Prop} [Decidable c] [Decidable p] (h : c ↔ p) {x y : α} : (if c then x else y) = if p then x else y := by
  by_cases hc : c
  · rw [if_pos hc, if_pos (h.mp hc)]
  · rw [if_neg hc, if_neg (fun z => hc (h.mpr z))]
theorem tx_bl [Decidable (p ∧ l.contains n = true)] (g : good x s lg) (hn : n < 16) (h : (∀ r ∈ l, r < 16) ∧ l.length ≤ 9) (e : x = "ldm" ↔ p) : Tx ⟨x, vd, vN n, vm, .inr l, ["base", "list"]⟩ a lg (line s [reg n ++ (if p ∧ l.contains n = true then [] else [33]), braces l]) :=
  tx g (Nat.le_succ 2) (.cons (.base ⟨n, l, hn, rfl, rfl, congrArg (reg n ++ ·) (if_iff (and_congr e.symm Iff.rfl))⟩) (.cons (op_l h) .nil)) rfl
end
theorem sh_lt {n : Nat} (h : n < 32) : (if n = 0 then 32 else n) < 1048576 := by
  split
  · decide
  · exact Nat.lt_trans h (by decide)
theorem k4 {k : Nat} (h : k < 256) : 4 * k < 1048576 := Nat.lt_of_lt_of_le (Nat.mul_lt_mul_of_pos_left h (by decide)) (by decide)
theorem kb {k : Nat} (h : k < 256) : k < 1048576 := Nat.lt_trans h (by decide)
theorem ms_le (op : Nat) : memSize op ≤ 4 := by
  unfold memSize
  repeat' split
  all_goals decide
theorem no_if : ((("b_if" : Str) = "bl" ∨ ("b_if" : Str) = "barrier") ↔ false = true) ∧ ("b_if" : Str) ≠ "none" := by decide +kernel
theorem text_eq {i : Sd12.Ins} (hw : Wf i) (a : Nat) : Tx (abI i) a (Sd12.long i) (Sd12.text a i) := by
  cases i with
  | shiftImm k rd rm n => exact tx_if (fun _ => tx_dm (gd 0 (by decide)) hw.2.1 hw.2.2.1) fun _ => tx_dnk (ok_shift k hw.1) hw.2.1 hw.2.2.1 (sh_lt hw.2.2.2)
  | addReg sub rd rn rm =>
    cases sub
    · exact tx_dnm (gd 1 (by decide)) hw.1 hw.2.1 hw.2.2
    · exact tx_dnm (gd 2 (by decide)) hw.1 hw.2.1 hw.2.2
  | addImm3 sub rd rn k =>
    cases sub
    · exact tx_dnk (gd 1 (by decide)) hw.1 hw.2.1 (kb hw.2.2)
    · exact tx_dnk (gd 2 (by decide)) hw.1 hw.2.1 (kb hw.2.2)
  | imm8 op rd k => exact tx_dk (ok_byte op hw.1) hw.2.1 (kb hw.2.2)
  | alu op rd rm =>
    have g := ok_low op hw.1
    by_cases c : op = 9
    · subst c
      exact tx g (Nat.le_refl 3) (.cons (op_d hw.2.1) (.cons (op_m hw.2.2) (.cons (.zero rfl) .nil))) rfl
    · show Tx ⟨_, _, _, _, _, if op = 9 then _ else _⟩ a false (line _ (if op = 9 then _ else _))
      rw [if_neg c, if_neg c]
      exact tx_dm g hw.2.1 hw.2.2
  | high op rd rm => exact tx_dm (ok_high op hw.1) hw.2.1 hw.2.2
  | branchReg l rm =>
    cases l
    · exact tx_m (gd 3 (by decide)) hw
    · exact tx_m (gd 4 (by decide)) hw
  | literal rt k => exact tx_pk (n := 15) (gd 5 (by decide)) hw.1 (by decide) (k4 hw.2)
  | memReg op rt rn rm => exact tx_pm (ok_mem op hw.1) hw.2.1 hw.2.2.1 hw.2.2.2
  | memImm op rt rn k =>
    show Tx _ a false (line _ [_, 91 :: (reg rn ++ (ascii ", " ++ (imm (k * memSize op) ++ [93])))])
    rw [Nat.mul_comm k (memSize op)]
    exact tx_pk (ok_mem op hw.1) hw.2.1 hw.2.2.1 (Nat.lt_of_le_of_lt (Nat.mul_le_mul_right k (ms_le op)) (k4 hw.2.2.2))
  | adr sp rd k =>
    cases sp
    · exact tx_dnk (n := 15) (gd 6 (by decide)) hw.1 (by decide) (k4 hw.2)
    · exact tx_dnk (n := 13) (gd 7 (by decide)) hw.1 (by decide) (k4 hw.2)
  | spMove sub k =>
    cases sub
    · exact tx_dk (d := 13) (gd 7 (by decide)) (by decide) (k4 hw)
    · exact tx_dk (d := 13) (gd 8 (by decide)) (by decide) (k4 hw)
  | extend op rd rm => exact tx_dm (ok_ext op hw.1) hw.2.1 hw.2.2
  | reverse op rd rm => exact tx_dm (ok_turn op hw.1 hw.2.1) hw.2.2.1 hw.2.2.2
  | push l => exact tx_l (gd 9 (by decide)) hw
  | pop l => exact tx_l (gd 10 (by decide)) hw
  | many load rn l =>
    cases load
    · exact tx_bl (gd 11 (by decide)) hw.1 hw.2 ⟨fun z => absurd z (by decide +kernel), fun z => by cases z⟩
    · exact tx_bl (gd 12 (by decide)) hw.1 hw.2 ⟨fun _ => rfl, fun _ => rfl⟩
  | cond c off => exact ⟨no_if.1, no_if.2, ascii (Sd12.conds.getD c ""), [_], .inl ⟨rfl, c, hw, rfl, rfl⟩, Nat.le_add_left 1 2, .cons (.target ⟨off, rfl, rfl⟩) .nil, rfl⟩
  | branch off => exact tx_t (gd 13 (by decide))
  | link off => exact tx_t ok_bl
  | call k => exact tx_k (gd 14 (by decide)) (kb hw)
  | halt_ k => exact tx_k (gd 15 (by decide)) (kb hw)
  | nothing l =>
    cases l
    · exact tx_0 (gd 16 (by decide))
    · exact tx_0 ok_bar
end Chip

namespace Chip
open PySem L2 LX
open Sd12 (reg imm hex comma braces ascii line)
theorem ins_fits {m : List Nat} (hb : ∀ x ∈ m, x < 256) {p : Nat} {i : Sd12.Ins} (e : insAt m p = some i) (hl : Sd12.long i = true) : p + 4 ≤ 65536 := by
  refine Nat.le_of_not_lt fun z => ?_
  unfold insAt at e
  have hc := (decode_wf (half_lt hb p) i e).2 hl
  rw [if_neg (Nat.not_le_of_lt z), dec_wide hc, if_neg (by decide), if_neg (fun z => absurd z.2 (by decide))] at e
  cases e
noncomputable def showL (m : List Nat) (a : Nat) : List Int := (Sd12.answer (.show_ m a)).value :: Sd12Neutral.ints (Sd12.answer (.show_ m a)).text
theorem ans_show (m : List Nat) (a : Nat) : Sd12.answer (.show_ m a) = if a % 2 ≠ 0 ∨ 65536 < a + 2 then ⟨-1, [], [], []⟩ else (match insAt m a with
    | none => ⟨2, [], [], line "half" [hex (half m a)]⟩
    | some i => if Sd12.long i = true ∧ 65536 < a + 4 then ⟨2, [], [], line "half" [hex (half m a)]⟩ else ⟨if Sd12.long i = true then 4 else 2, [], [], Sd12.text a i⟩) := rfl
theorem showL_no {m : List Nat} {a : Nat} (h : a % 2 ≠ 0 ∨ 65536 < a + 2) : showL m a = [-1] := by
  unfold showL
  rw [ans_show, if_pos h]
  rfl
theorem showL_none {m : List Nat} {a : Nat} (h : ¬ (a % 2 ≠ 0 ∨ 65536 < a + 2)) (e : insAt m a = none) : showL m a = 2 :: (line "half" [hex (half m a)]).map fun (x : Nat) => (x : Int) := by
  unfold showL
  rw [ans_show, if_neg h, e]
  rfl
theorem showL_some {m : List Nat} {a : Nat} {i : Sd12.Ins} (h : ¬ (a % 2 ≠ 0 ∨ 65536 < a + 2)) (e : insAt m a = some i) (hf : Sd12.long i = true → a + 4 ≤ 65536) :
    showL m a = (if Sd12.long i = true then 4 else 2) :: (Sd12.text a i).map fun (x : Nat) => (x : Int) := by
  have no : ¬ (Sd12.long i = true ∧ 65536 < a + 4) := fun z => Nat.not_lt_of_le (hf z.1) z.2
  unfold showL
  rw [ans_show, if_neg h, e]
  simp only [if_neg no]
  rfl
section
variable {P : Program} {w : World} {K : PySem.W.Frag} {mg : Str → Option Value} {base : Heap}
noncomputable def sp_show (K : PySem.W.Frag) : Sp := fun vs H Q _ => ∃ (n : Nat) (a b : Addr) (ps ds : List Nat), vs = [vN n, .ref a, .ref b] ∧ SqL K H a (ps.map vN) ∧ SqL K H b (ds.map vN) ∧ ps.length = ds.length ∧ (∀ p ∈ ps, p < 65536) ∧ (∀ d ∈ ds, d < 256) ∧
  ∀ l H', H' l = some (.lst ((showL (memL ps ds) n).map V.int)) → Q (.ref l) H'
theorem map_vN (l : List Nat) : l.map vN = (l.map fun (x : Nat) => (x : Int)).map V.int := by
  rw [List.map_map]
  rfl
theorem fn_show (T : Txt K mg) : Fn P w K mg base "show" 5 ["at", "places", "data"] (sp_show K) := by
  have G_memory_of := fn_memory_of (P := P) (w := w) (base := base) T
  have G_instruction_at := fn_instruction_at (P := P) (w := w) (base := base) T
  have G_half_at := fn_half_at (P := P) (w := w) (base := base) T
  have G_half_text := fn_half_text (P := P) (w := w) (base := base) T
  have G_bytes_of_text := fn_bytes_of_text (P := P) (w := w) (base := base) T
  have G_length_of := fn_length_of (P := P) (w := w) (base := base) T
  have G_instruction_text := fn_instruction_text (P := P) (w := w) (base := base) T
  refine T.d_show.fn sc_show (fun _ _ _ _ _ _ => ln3 (fun _ _ _ => rfl)) (fun vs H Q E h => ?_) (fun f cdv A outer s H vs Q E hr h => ?_)
  · obtain ⟨n, a, b, ps, ds, rfl, _⟩ := h
    rfl
  obtain ⟨n, a, b, ps, ds, rfl, hA, hB, len, hps, hds, k⟩ := h
  refine ⟨_, (@pss_cons _ _ _ _ _ (@ps_if _ _ _ _ _ _ _ _ (@PW.pt _ _ _ (@pw_or _ _ _ _ _ _ _ (@pt_cmpR _ _ _ _ _ _ _ _ op_ne (@pe_op _ _ _ _ _ _ _ _ n_mod (@pvx _ _ _ 0 (.inl (lk ok_show (i := 0) rfl)) (nmk nms2 (i := 21) rfl) rfl) (@pn _ 2 _ _)) (@pn _ 0 _ _) rfl) (@pw_or1 _ _ _ _ (@pt_cmpR _ _ _ _ _ _ _ _ op_gt (@pe_op _ _ _ _ _ _ _ _ n_add (@pvx _ _ _ 0 (.inl (lk ok_show (i := 0) rfl)) (nmk nms2 (i := 21) rfl) rfl) (@pn _ 2 _ _)) (@pg_int _ _ _ _ T.c_SIZE (lk ok_show (i := 1) rfl) (nmk nms0 (i := 6) rfl).1) rfl)))) (@pss_one _ _ _ (@ps_ret _ _ _ _ (@pe_lst _ _ _ _ (@pa_cons _ _ _ _ _ (@pe_un _ _ _ _ _ _ un_neg (@pn _ 1 _ _)) pa_nil rfl)))) pss_nil) (@pss_cons _ _ _ _ _ (@ps_set _ _ 3 _ _ _ _ sc_show.nd rfl (Or.inl (lk ok_show (i := 5) rfl)) (@pe_fn _ _ _ _ _ _ _ _ _ _ G_memory_of (hr.mono (by decide)) (lk ok_show (i := 2) rfl) (@pa_cons _ _ _ _ _ (@pvx _ _ _ 1 (.inl (lk ok_show (i := 3) rfl)) (nmk nms0 (i := 7) rfl) rfl) (@pa_cons _ _ _ _ _ (@pvx _ _ _ 2 (.inl (lk ok_show (i := 4) rfl)) (nmk nms0 (i := 8) rfl) rfl) pa_nil rfl) rfl) (nmk nms3 (i := 7) rfl).1 rfl rfl) rfl (.inl rfl)) (@pss_cons _ _ _ _ _ (@ps_set _ _ 4 _ _ _ _ sc_show.nd rfl (Or.inl (lk ok_show (i := 7) rfl)) (@pe_fn _ _ _ _ _ _ _ _ _ _ G_instruction_at (hr.mono (by decide)) (lk ok_show (i := 6) rfl) (@pa_cons _ _ _ _ _ (@pvx _ _ _ 3 (.inl (lk ok_show (i := 5) rfl)) (nmk nms0 (i := 9) rfl) rfl) (@pa_cons _ _ _ _ _ (@pvx _ _ _ 0 (.inl (lk ok_show (i := 0) rfl)) (nmk nms2 (i := 21) rfl) rfl) pa_nil rfl) rfl) (nmk nms3 (i := 8) rfl).1 rfl rfl) rfl (.inl rfl)) (@pss_cons _ _ _ _ _ (@ps_if _ _ _ _ _ _ _ _ (@pt_cmpR _ _ _ _ _ _ _ _ op_eq (@pe_ix _ _ _ _ _ _ _ ix_tup (@pvx _ _ _ 4 (.inl (lk ok_show (i := 7) rfl)) (nmk nms2 (i := 16) rfl) rfl) (@pn _ 0 _ _) (fun _ _ => rfl)) pe_str rfl) (@pss_one _ _ _ (@ps_ret _ _ _ _ (@pe_op _ _ _ _ _ _ _ _ op_catS (@pe_lst _ _ _ _ (@pa_cons _ _ _ _ _ (@pn _ 2 _ _) pa_nil rfl)) (@pe_fn _ _ _ _ _ _ _ _ _ _ G_bytes_of_text (hr.mono (by decide)) (lk ok_show (i := 8) rfl) (@pa_cons _ _ _ _ _ (@pe_fn _ _ _ _ _ _ _ _ _ _ G_half_text (hr.mono (by decide)) (lk ok_show (i := 9) rfl) (@pa_cons _ _ _ _ _ (@pe_fn _ _ _ _ _ _ _ _ _ _ G_half_at (hr.mono (by decide)) (lk ok_show (i := 10) rfl) (@pa_cons _ _ _ _ _ (@pvx _ _ _ 3 (.inl (lk ok_show (i := 5) rfl)) (nmk nms0 (i := 9) rfl) rfl) (@pa_cons _ _ _ _ _ (@pvx _ _ _ 0 (.inl (lk ok_show (i := 0) rfl)) (nmk nms2 (i := 21) rfl) rfl) pa_nil rfl) rfl) (nmk nms2 (i := 12) rfl).1 rfl rfl) pa_nil rfl) (nmk nms3 (i := 9) rfl).1 rfl rfl) pa_nil rfl) (nmk nms3 (i := 10) rfl).1 rfl rfl)))) pss_nil) (@pss_one _ _ _ (@ps_ret _ _ _ _ (@pe_op _ _ _ _ _ _ _ _ op_catS (@pe_lst _ _ _ _ (@pa_cons _ _ _ _ _ (@pe_fn _ _ _ _ _ _ _ _ _ _ G_length_of (hr.mono (by decide)) (lk ok_show (i := 11) rfl) (@pa_cons _ _ _ _ _ (@pvx _ _ _ 4 (.inl (lk ok_show (i := 7) rfl)) (nmk nms2 (i := 16) rfl) rfl) pa_nil rfl) (nmk nms3 (i := 11) rfl).1 rfl rfl) pa_nil rfl)) (@pe_fn _ _ _ _ _ _ _ _ _ _ G_bytes_of_text (hr.mono (by decide)) (lk ok_show (i := 8) rfl) (@pa_cons _ _ _ _ _ (@pe_fn _ _ _ _ _ _ _ _ _ _ G_instruction_text (hr.mono (by decide)) (lk ok_show (i := 12) rfl) (@pa_cons _ _ _ _ _ (@pvx _ _ _ 4 (.inl (lk ok_show (i := 7) rfl)) (nmk nms2 (i := 16) rfl) rfl) (@pa_cons _ _ _ _ _ (@pvx _ _ _ 0 (.inl (lk ok_show (i := 0) rfl)) (nmk nms2 (i := 21) rfl) rfl) pa_nil rfl) rfl) (nmk nms3 (i := 12) rfl).1 rfl rfl) pa_nil rfl) (nmk nms3 (i := 10) rfl).1 rfl rfl)))))))), ?_⟩
  refine ifs (b := decide (n % 2 ≠ 0) || decide (65536 < n + 2)) (p_or (pu_eq (pu_test (is_neN (is_nc (is_var rfl) is_c ?_) is_c)) decide_not.symm) (pu_test (is_gtN (is_n (is_var rfl) is_c) is_c))) ?_
  · show 0 < 2
    decide
  refine ite2 (fun c => ?_) (fun c => ?_)
  · rw [Bool.or_eq_true, decide_eq_true_eq, decide_eq_true_eq] at c
    refine ⟨_, rfl, len1, fun l hl => k l _ ?_⟩
    rw [upd_same, showL_no c]
    rfl
  rw [Bool.or_eq_true, decide_eq_true_eq, decide_eq_true_eq] at c
  refine ⟨_, rfl, _, rfl, a, b, ps, ds, rfl, hA, hB, len, hps, fun l H1 nl s1 h1 => ?_⟩
  have hb := memL_lt (ps := ps) hds
  have hl := memL_len ps ds
  have hn2 : n + 2 ≤ 65536 := Nat.le_of_not_lt fun z => c (.inr z)
  refine ⟨_, rfl, _, rfl, l, _, n, rfl, .of h1, hb, hl, hn2, fun q H2 s2 hi _ => ?_⟩
  have h2 := s2 _ _ h1
  obtain ⟨iv, po, ht, _⟩ := id hi
  have hn : n < 65536 := Nat.le_of_succ_le hn2
  cases e : insAt (memL ps ds) n with
  | none =>
    rw [e] at hi ht
    refine ⟨_, rfl, _, _, _, _, rfl, rfl, ht, atN (i := 0) rfl, rfl, _, bS (p := True) ⟨fun _ => trivial, fun _ => rfl⟩, ?_⟩
    refine ite2 (fun _ => ?_) (fun z => absurd (decide_eq_true trivial) z)
    refine ⟨len1, fun l1 hl1 => ?_⟩
    have h3 : (upd H2 l1 (.lst [vN 2])) l = some (.lst ((memL ps ds).map vN)) := (same_upd hl1) _ _ h2
    refine ⟨_, rfl, _, rfl, l, _, n, rfl, .of h3, hb, by rw [hl]; exact hn2, ?_⟩
    refine ⟨_, rfl, half_lt hb n, fun x ex lx => ?_⟩
    refine ⟨x, rfl, lx, fun l2 H3 s3 h4 => ?_⟩
    refine ⟨l1, l2, _, _, rfl, rfl, .of (s3 _ _ upd_same), .of h4, ?_, fun l3 hl3 => k l3 _ ?_⟩
    · rw [List.length_map, ← len_tl]
      exact fits (Nat.le_trans (Nat.add_le_add_left lx 1) (by decide))
    · rw [upd_same, showL_none c e, ex, map_vN]
      rfl
  | some i =>
    rw [e] at hi ht
    obtain ⟨n1, n2, nm, ts, t1, t2, t3, t4⟩ := text_eq (decode_wf (half_lt hb n) i e).1 n
    refine ⟨_, rfl, _, _, _, _, rfl, rfl, ht, atN (i := 0) rfl, rfl, _, bS (p := False) ⟨fun z => n2 z, fun z => z.elim⟩, ?_⟩
    refine ite2 (fun z => absurd (of_decide_eq_true z) id) (fun _ => ?_)
    refine ⟨_, rfl, q, _, rfl, hi, fun H3 s3 => ?_⟩
    refine ⟨len1, fun l1 hl1 => ?_⟩
    refine ⟨_, rfl, _, rfl, q, n, _, nm, ts, rfl, hn, hi.same (s3.trans (same_upd hl1)), t1, t2, t3, fun x H4 s4 ex lx => ?_⟩
    refine ⟨x, rfl, lx, fun l2 H5 s5 h5 => ?_⟩
    refine ⟨l1, l2, _, _, rfl, rfl, .of (s5 _ _ (s4 _ _ upd_same)), .of h5, ?_, fun l3 hl3 => k l3 _ ?_⟩
    · rw [List.length_map, ← len_tl]
      exact fits (Nat.le_trans (Nat.add_le_add_left lx 1) (by decide))
    · rw [upd_same, showL_some c e (ins_fits hb e), ex, map_vN, t4]
      show some (HO.lst ([vN (if (abI i).name = "bl" ∨ (abI i).name = "barrier" then 4 else 2)] ++ _)) = _
      by_cases lg : Sd12.long i = true
      · rw [if_pos (n1.mpr lg), if_pos lg]
        rfl
      · rw [if_neg (fun z => lg (n1.mp z)), if_neg lg]
        rfl
end
end Chip

namespace Chip
open PySem L2 LX PyProof.Rows
theorem tabK_mk {K : PySem.W.Frag} {a : Addr} {es : Array DictEntry} {n : Nat} {D : List (Str × V)} (l : K.lookup a = some ⟨.type "dict", none, .dict es n, #[]⟩) (s : (a == sysModules) = false) (r : KTD.Rows RelV es.toList D) : TabK K a D :=
  ⟨s, _, es, n, l, ⟨rfl, rfl, rfl⟩, rfl, r⟩
theorem txt_mk {K : PySem.W.Frag} {h : Heap} {mg : Str → Option Value} (X : K.In h) (G : h.Ns mainGlobals mg)
    {f_memory_of : Addr} {oc_memory_of : Value} {odd_memory_of an_memory_of : Option Addr} {osl_memory_of : Array (Option Value)} {kV_memory_of dc_memory_of pm_memory_of cd_memory_of ct_memory_of : Value}
    {f_half_at : Addr} {oc_half_at : Value} {odd_half_at an_half_at : Option Addr} {osl_half_at : Array (Option Value)} {kV_half_at dc_half_at pm_half_at cd_half_at ct_half_at : Value}
    {f_with_sign : Addr} {oc_with_sign : Value} {odd_with_sign an_with_sign : Option Addr} {osl_with_sign : Array (Option Value)} {kV_with_sign dc_with_sign pm_with_sign cd_with_sign ct_with_sign : Value}
    {f_no_instruction : Addr} {oc_no_instruction : Value} {odd_no_instruction an_no_instruction : Option Addr} {osl_no_instruction : Array (Option Value)} {kV_no_instruction dc_no_instruction pm_no_instruction cd_no_instruction ct_no_instruction : Value}
    {f_shift_by_number : Addr} {oc_shift_by_number : Value} {odd_shift_by_number an_shift_by_number : Option Addr} {osl_shift_by_number : Array (Option Value)} {kV_shift_by_number dc_shift_by_number pm_shift_by_number cd_shift_by_number ct_shift_by_number : Value}
    {f_sum_of_three : Addr} {oc_sum_of_three : Value} {odd_sum_of_three an_sum_of_three : Option Addr} {osl_sum_of_three : Array (Option Value)} {kV_sum_of_three dc_sum_of_three pm_sum_of_three cd_sum_of_three ct_sum_of_three : Value}
    {f_with_byte : Addr} {oc_with_byte : Value} {odd_with_byte an_with_byte : Option Addr} {osl_with_byte : Array (Option Value)} {kV_with_byte dc_with_byte pm_with_byte cd_with_byte ct_with_byte : Value}
    {f_with_registers : Addr} {oc_with_registers : Value} {odd_with_registers an_with_registers : Option Addr} {osl_with_registers : Array (Option Value)} {kV_with_registers dc_with_registers pm_with_registers cd_with_registers ct_with_registers : Value}
    {f_with_high_registers : Addr} {oc_with_high_registers : Value} {odd_with_high_registers an_with_high_registers : Option Addr} {osl_with_high_registers : Array (Option Value)} {kV_with_high_registers dc_with_high_registers pm_with_high_registers cd_with_high_registers ct_with_high_registers : Value}
    {f_branch_to_register : Addr} {oc_branch_to_register : Value} {odd_branch_to_register an_branch_to_register : Option Addr} {osl_branch_to_register : Array (Option Value)} {kV_branch_to_register dc_branch_to_register pm_branch_to_register cd_branch_to_register ct_branch_to_register : Value}
    {f_load_from_program : Addr} {oc_load_from_program : Value} {odd_load_from_program an_load_from_program : Option Addr} {osl_load_from_program : Array (Option Value)} {kV_load_from_program dc_load_from_program pm_load_from_program cd_load_from_program ct_load_from_program : Value}
    {f_move_by_register : Addr} {oc_move_by_register : Value} {odd_move_by_register an_move_by_register : Option Addr} {osl_move_by_register : Array (Option Value)} {kV_move_by_register dc_move_by_register pm_move_by_register cd_move_by_register ct_move_by_register : Value}
    {f_move_by_number : Addr} {oc_move_by_number : Value} {odd_move_by_number an_move_by_number : Option Addr} {osl_move_by_number : Array (Option Value)} {kV_move_by_number dc_move_by_number pm_move_by_number cd_move_by_number ct_move_by_number : Value}
    {f_move_on_stack : Addr} {oc_move_on_stack : Value} {odd_move_on_stack an_move_on_stack : Option Addr} {osl_move_on_stack : Array (Option Value)} {kV_move_on_stack dc_move_on_stack pm_move_on_stack cd_move_on_stack ct_move_on_stack : Value}
    {f_place_in_program : Addr} {oc_place_in_program : Value} {odd_place_in_program an_place_in_program : Option Addr} {osl_place_in_program : Array (Option Value)} {kV_place_in_program dc_place_in_program pm_place_in_program cd_place_in_program ct_place_in_program : Value}
    {f_place_on_stack : Addr} {oc_place_on_stack : Value} {odd_place_on_stack an_place_on_stack : Option Addr} {osl_place_on_stack : Array (Option Value)} {kV_place_on_stack dc_place_on_stack pm_place_on_stack cd_place_on_stack ct_place_on_stack : Value}
    {f_stack_pointer : Addr} {oc_stack_pointer : Value} {odd_stack_pointer an_stack_pointer : Option Addr} {osl_stack_pointer : Array (Option Value)} {kV_stack_pointer dc_stack_pointer pm_stack_pointer cd_stack_pointer ct_stack_pointer : Value}
    {f_extension : Addr} {oc_extension : Value} {odd_extension an_extension : Option Addr} {osl_extension : Array (Option Value)} {kV_extension dc_extension pm_extension cd_extension ct_extension : Value}
    {f_turned_bytes : Addr} {oc_turned_bytes : Value} {odd_turned_bytes an_turned_bytes : Option Addr} {osl_turned_bytes : Array (Option Value)} {kV_turned_bytes dc_turned_bytes pm_turned_bytes cd_turned_bytes ct_turned_bytes : Value}
    {f_listed : Addr} {oc_listed : Value} {odd_listed an_listed : Option Addr} {osl_listed : Array (Option Value)} {kV_listed dc_listed pm_listed cd_listed ct_listed : Value}
    {f_push_list : Addr} {oc_push_list : Value} {odd_push_list an_push_list : Option Addr} {osl_push_list : Array (Option Value)} {kV_push_list dc_push_list pm_push_list cd_push_list ct_push_list : Value}
    {f_pop_list : Addr} {oc_pop_list : Value} {odd_pop_list an_pop_list : Option Addr} {osl_pop_list : Array (Option Value)} {kV_pop_list dc_pop_list pm_pop_list cd_pop_list ct_pop_list : Value}
    {f_bkpt : Addr} {oc_bkpt : Value} {odd_bkpt an_bkpt : Option Addr} {osl_bkpt : Array (Option Value)} {kV_bkpt dc_bkpt pm_bkpt cd_bkpt ct_bkpt : Value}
    {f_hint : Addr} {oc_hint : Value} {odd_hint an_hint : Option Addr} {osl_hint : Array (Option Value)} {kV_hint dc_hint pm_hint cd_hint ct_hint : Value}
    {f_odds : Addr} {oc_odds : Value} {odd_odds an_odds : Option Addr} {osl_odds : Array (Option Value)} {kV_odds dc_odds pm_odds cd_odds ct_odds : Value}
    {f_store_list : Addr} {oc_store_list : Value} {odd_store_list an_store_list : Option Addr} {osl_store_list : Array (Option Value)} {kV_store_list dc_store_list pm_store_list cd_store_list ct_store_list : Value}
    {f_load_list : Addr} {oc_load_list : Value} {odd_load_list an_load_list : Option Addr} {osl_load_list : Array (Option Value)} {kV_load_list dc_load_list pm_load_list cd_load_list ct_load_list : Value}
    {f_branch_if : Addr} {oc_branch_if : Value} {odd_branch_if an_branch_if : Option Addr} {osl_branch_if : Array (Option Value)} {kV_branch_if dc_branch_if pm_branch_if cd_branch_if ct_branch_if : Value}
    {f_branch : Addr} {oc_branch : Value} {odd_branch an_branch : Option Addr} {osl_branch : Array (Option Value)} {kV_branch dc_branch pm_branch cd_branch ct_branch : Value}
    {f_wide : Addr} {oc_wide : Value} {odd_wide an_wide : Option Addr} {osl_wide : Array (Option Value)} {kV_wide dc_wide pm_wide cd_wide ct_wide : Value}
    {f_distance : Addr} {oc_distance : Value} {odd_distance an_distance : Option Addr} {osl_distance : Array (Option Value)} {kV_distance dc_distance pm_distance cd_distance ct_distance : Value}
    {f_is_first_half : Addr} {oc_is_first_half : Value} {odd_is_first_half an_is_first_half : Option Addr} {osl_is_first_half : Array (Option Value)} {kV_is_first_half dc_is_first_half pm_is_first_half cd_is_first_half ct_is_first_half : Value}
    {f_instruction_at : Addr} {oc_instruction_at : Value} {odd_instruction_at an_instruction_at : Option Addr} {osl_instruction_at : Array (Option Value)} {kV_instruction_at dc_instruction_at pm_instruction_at cd_instruction_at ct_instruction_at : Value}
    {f_length_of : Addr} {oc_length_of : Value} {odd_length_of an_length_of : Option Addr} {osl_length_of : Array (Option Value)} {kV_length_of dc_length_of pm_length_of cd_length_of ct_length_of : Value}
    {f_hexadecimal : Addr} {oc_hexadecimal : Value} {odd_hexadecimal an_hexadecimal : Option Addr} {osl_hexadecimal : Array (Option Value)} {kV_hexadecimal dc_hexadecimal pm_hexadecimal cd_hexadecimal ct_hexadecimal : Value}
    {f_written_d : Addr} {oc_written_d : Value} {odd_written_d an_written_d : Option Addr} {osl_written_d : Array (Option Value)} {kV_written_d dc_written_d pm_written_d cd_written_d ct_written_d : Value}
    {f_written_n : Addr} {oc_written_n : Value} {odd_written_n an_written_n : Option Addr} {osl_written_n : Array (Option Value)} {kV_written_n dc_written_n pm_written_n cd_written_n ct_written_n : Value}
    {f_written_second : Addr} {oc_written_second : Value} {odd_written_second an_written_second : Option Addr} {osl_written_second : Array (Option Value)} {kV_written_second dc_written_second pm_written_second cd_written_second ct_written_second : Value}
    {f_written_zero : Addr} {oc_written_zero : Value} {odd_written_zero an_written_zero : Option Addr} {osl_written_zero : Array (Option Value)} {kV_written_zero dc_written_zero pm_written_zero cd_written_zero ct_written_zero : Value}
    {f_written_place : Addr} {oc_written_place : Value} {odd_written_place an_written_place : Option Addr} {osl_written_place : Array (Option Value)} {kV_written_place dc_written_place pm_written_place cd_written_place ct_written_place : Value}
    {f_written_base : Addr} {oc_written_base : Value} {odd_written_base an_written_base : Option Addr} {osl_written_base : Array (Option Value)} {kV_written_base dc_written_base pm_written_base cd_written_base ct_written_base : Value}
    {f_written_list : Addr} {oc_written_list : Value} {odd_written_list an_written_list : Option Addr} {osl_written_list : Array (Option Value)} {kV_written_list dc_written_list pm_written_list cd_written_list ct_written_list : Value}
    {f_written_target : Addr} {oc_written_target : Value} {odd_written_target an_written_target : Option Addr} {osl_written_target : Array (Option Value)} {kV_written_target dc_written_target pm_written_target cd_written_target ct_written_target : Value}
    {f_written_name : Addr} {oc_written_name : Value} {odd_written_name an_written_name : Option Addr} {osl_written_name : Array (Option Value)} {kV_written_name dc_written_name pm_written_name cd_written_name ct_written_name : Value}
    {f_instruction_text : Addr} {oc_instruction_text : Value} {odd_instruction_text an_instruction_text : Option Addr} {osl_instruction_text : Array (Option Value)} {kV_instruction_text dc_instruction_text pm_instruction_text cd_instruction_text ct_instruction_text : Value}
    {f_half_text : Addr} {oc_half_text : Value} {odd_half_text an_half_text : Option Addr} {osl_half_text : Array (Option Value)} {kV_half_text dc_half_text pm_half_text cd_half_text ct_half_text : Value}
    {f_show : Addr} {oc_show : Value} {odd_show an_show : Option Addr} {osl_show : Array (Option Value)} {kV_show dc_show pm_show cd_show ct_show : Value}
    {f_bytes_of_text : Addr} {oc_bytes_of_text : Value} {odd_bytes_of_text an_bytes_of_text : Option Addr} {osl_bytes_of_text : Array (Option Value)} {kV_bytes_of_text dc_bytes_of_text pm_bytes_of_text cd_bytes_of_text ct_bytes_of_text : Value}
    {t_SIZE : Tok}
    {t_WORD : Tok}
    {t_SP : Tok}
    {t_LR : Tok}
    {t_PC : Tok}
    {a_NONE : Addr}
    {e_NONE : Addr}
    {od_NONE : Option Addr} {it_NONE : Array Value} {nn_NONE : Nat} {sl_NONE : Array (Option Value)}
    {od_NONE2 : Option Addr} {it_NONE2 : Array Value} {nn_NONE2 : Nat} {sl_NONE2 : Array (Option Value)}
    {t_WIDE : Tok}
    {a_ALONE : Addr}
    {od_ALONE : Option Addr} {it_ALONE : Array Value} {nn_ALONE : Nat} {sl_ALONE : Array (Option Value)}
    {a_OF_ONE : Addr}
    {od_OF_ONE : Option Addr} {it_OF_ONE : Array Value} {nn_OF_ONE : Nat} {sl_OF_ONE : Array (Option Value)}
    {a_OF_TWO : Addr}
    {od_OF_TWO : Option Addr} {it_OF_TWO : Array Value} {nn_OF_TWO : Nat} {sl_OF_TWO : Array (Option Value)}
    {a_OF_TWO_AND_ZERO : Addr}
    {od_OF_TWO_AND_ZERO : Option Addr} {it_OF_TWO_AND_ZERO : Array Value} {nn_OF_TWO_AND_ZERO : Nat} {sl_OF_TWO_AND_ZERO : Array (Option Value)}
    {a_OF_THREE : Addr}
    {od_OF_THREE : Option Addr} {it_OF_THREE : Array Value} {nn_OF_THREE : Nat} {sl_OF_THREE : Array (Option Value)}
    {a_WITH_PLACE : Addr}
    {od_WITH_PLACE : Option Addr} {it_WITH_PLACE : Array Value} {nn_WITH_PLACE : Nat} {sl_WITH_PLACE : Array (Option Value)}
    {a_WITH_LIST : Addr}
    {od_WITH_LIST : Option Addr} {it_WITH_LIST : Array Value} {nn_WITH_LIST : Nat} {sl_WITH_LIST : Array (Option Value)}
    {a_WITH_BASE_AND_LIST : Addr}
    {od_WITH_BASE_AND_LIST : Option Addr} {it_WITH_BASE_AND_LIST : Array Value} {nn_WITH_BASE_AND_LIST : Nat} {sl_WITH_BASE_AND_LIST : Array (Option Value)}
    {a_WITH_TARGET : Addr}
    {od_WITH_TARGET : Option Addr} {it_WITH_TARGET : Array Value} {nn_WITH_TARGET : Nat} {sl_WITH_TARGET : Array (Option Value)}
    {a_SHIFTS : Addr}
    {od_SHIFTS : Option Addr} {it_SHIFTS : Array Value} {nn_SHIFTS : Nat} {sl_SHIFTS : Array (Option Value)}
    {a_WITH_BYTE : Addr}
    {od_WITH_BYTE : Option Addr} {it_WITH_BYTE : Array Value} {nn_WITH_BYTE : Nat} {sl_WITH_BYTE : Array (Option Value)}
    {a_TWO_LOW : Addr}
    {od_TWO_LOW : Option Addr} {it_TWO_LOW : Array Value} {nn_TWO_LOW : Nat} {sl_TWO_LOW : Array (Option Value)}
    {a_TWO_HIGH : Addr}
    {od_TWO_HIGH : Option Addr} {it_TWO_HIGH : Array Value} {nn_TWO_HIGH : Nat} {sl_TWO_HIGH : Array (Option Value)}
    {a_BY_REGISTER : Addr}
    {od_BY_REGISTER : Option Addr} {it_BY_REGISTER : Array Value} {nn_BY_REGISTER : Nat} {sl_BY_REGISTER : Array (Option Value)}
    {a_BY_NUMBER : Addr}
    {e0_BY_NUMBER e1_BY_NUMBER e2_BY_NUMBER e3_BY_NUMBER e4_BY_NUMBER e5_BY_NUMBER : Addr}
    {od_BY_NUMBER : Option Addr} {it_BY_NUMBER : Array Value} {nn_BY_NUMBER : Nat} {sl_BY_NUMBER : Array (Option Value)}
    {od_BY_NUMBER0 : Option Addr} {it_BY_NUMBER0 : Array Value} {nn_BY_NUMBER0 : Nat} {sl_BY_NUMBER0 : Array (Option Value)}
    {od_BY_NUMBER1 : Option Addr} {it_BY_NUMBER1 : Array Value} {nn_BY_NUMBER1 : Nat} {sl_BY_NUMBER1 : Array (Option Value)}
    {od_BY_NUMBER2 : Option Addr} {it_BY_NUMBER2 : Array Value} {nn_BY_NUMBER2 : Nat} {sl_BY_NUMBER2 : Array (Option Value)}
    {od_BY_NUMBER3 : Option Addr} {it_BY_NUMBER3 : Array Value} {nn_BY_NUMBER3 : Nat} {sl_BY_NUMBER3 : Array (Option Value)}
    {od_BY_NUMBER4 : Option Addr} {it_BY_NUMBER4 : Array Value} {nn_BY_NUMBER4 : Nat} {sl_BY_NUMBER4 : Array (Option Value)}
    {od_BY_NUMBER5 : Option Addr} {it_BY_NUMBER5 : Array Value} {nn_BY_NUMBER5 : Nat} {sl_BY_NUMBER5 : Array (Option Value)}
    {a_EXTENSIONS : Addr}
    {od_EXTENSIONS : Option Addr} {it_EXTENSIONS : Array Value} {nn_EXTENSIONS : Nat} {sl_EXTENSIONS : Array (Option Value)}
    {a_TURNS : Addr}
    {od_TURNS : Option Addr} {it_TURNS : Array Value} {nn_TURNS : Nat} {sl_TURNS : Array (Option Value)}
    {a_ODDS : Addr}
    {od_ODDS : Option Addr} {it_ODDS : Array Value} {nn_ODDS : Nat} {sl_ODDS : Array (Option Value)}
    {a_BY_HIGHEST_BITS : Addr}
    {od_BY_HIGHEST_BITS : Option Addr} {it_BY_HIGHEST_BITS : Array Value} {nn_BY_HIGHEST_BITS : Nat} {sl_BY_HIGHEST_BITS : Array (Option Value)}
    {a_REGISTERS : Addr}
    {od_REGISTERS : Option Addr} {it_REGISTERS : Array Value} {nn_REGISTERS : Nat} {sl_REGISTERS : Array (Option Value)}
    {a_CONDITIONS : Addr}
    {od_CONDITIONS : Option Addr} {it_CONDITIONS : Array Value} {nn_CONDITIONS : Nat} {sl_CONDITIONS : Array (Option Value)}
    {t_DIGITS : Tok}
    {a_WRITTEN_LIKE : Addr}
    {es_WRITTEN_LIKE : Array DictEntry} {nn_WRITTEN_LIKE : Nat}
    {a_WRITERS : Addr}
    {es_WRITERS : Array DictEntry} {nn_WRITERS : Nat}
    (d_memory_of : PySem.W.nsIn K mainGlobals "memory_of" = some (some (.ref f_memory_of)))
    (k1_memory_of : K.lookup f_memory_of = some ⟨oc_memory_of, odd_memory_of, .func (PySem.W.fnOf "memory_of" "memory_of" (defArgs s_memory_of) (defBody s_memory_of) (defScope s_memory_of) .none kV_memory_of dc_memory_of pm_memory_of an_memory_of cd_memory_of ct_memory_of), osl_memory_of⟩)
    (k2_memory_of : PySem.W.codeIn K cd_memory_of "memory_of" = true)
    (k3_memory_of : PySem.W.keepIn K (.ref f_memory_of) = true)
    (d_half_at : PySem.W.nsIn K mainGlobals "half_at" = some (some (.ref f_half_at)))
    (k1_half_at : K.lookup f_half_at = some ⟨oc_half_at, odd_half_at, .func (PySem.W.fnOf "half_at" "half_at" (defArgs s_half_at) (defBody s_half_at) (defScope s_half_at) .none kV_half_at dc_half_at pm_half_at an_half_at cd_half_at ct_half_at), osl_half_at⟩)
    (k2_half_at : PySem.W.codeIn K cd_half_at "half_at" = true)
    (k3_half_at : PySem.W.keepIn K (.ref f_half_at) = true)
    (d_with_sign : PySem.W.nsIn K mainGlobals "with_sign" = some (some (.ref f_with_sign)))
    (k1_with_sign : K.lookup f_with_sign = some ⟨oc_with_sign, odd_with_sign, .func (PySem.W.fnOf "with_sign" "with_sign" (defArgs s_with_sign) (defBody s_with_sign) (defScope s_with_sign) .none kV_with_sign dc_with_sign pm_with_sign an_with_sign cd_with_sign ct_with_sign), osl_with_sign⟩)
    (k2_with_sign : PySem.W.codeIn K cd_with_sign "with_sign" = true)
    (k3_with_sign : PySem.W.keepIn K (.ref f_with_sign) = true)
    (d_no_instruction : PySem.W.nsIn K mainGlobals "no_instruction" = some (some (.ref f_no_instruction)))
    (k1_no_instruction : K.lookup f_no_instruction = some ⟨oc_no_instruction, odd_no_instruction, .func (PySem.W.fnOf "no_instruction" "no_instruction" (defArgs s_no_instruction) (defBody s_no_instruction) (defScope s_no_instruction) .none kV_no_instruction dc_no_instruction pm_no_instruction an_no_instruction cd_no_instruction ct_no_instruction), osl_no_instruction⟩)
    (k2_no_instruction : PySem.W.codeIn K cd_no_instruction "no_instruction" = true)
    (k3_no_instruction : PySem.W.keepIn K (.ref f_no_instruction) = true)
    (d_shift_by_number : PySem.W.nsIn K mainGlobals "shift_by_number" = some (some (.ref f_shift_by_number)))
    (k1_shift_by_number : K.lookup f_shift_by_number = some ⟨oc_shift_by_number, odd_shift_by_number, .func (PySem.W.fnOf "shift_by_number" "shift_by_number" (defArgs s_shift_by_number) (defBody s_shift_by_number) (defScope s_shift_by_number) .none kV_shift_by_number dc_shift_by_number pm_shift_by_number an_shift_by_number cd_shift_by_number ct_shift_by_number), osl_shift_by_number⟩)
    (k2_shift_by_number : PySem.W.codeIn K cd_shift_by_number "shift_by_number" = true)
    (k3_shift_by_number : PySem.W.keepIn K (.ref f_shift_by_number) = true)
    (d_sum_of_three : PySem.W.nsIn K mainGlobals "sum_of_three" = some (some (.ref f_sum_of_three)))
    (k1_sum_of_three : K.lookup f_sum_of_three = some ⟨oc_sum_of_three, odd_sum_of_three, .func (PySem.W.fnOf "sum_of_three" "sum_of_three" (defArgs s_sum_of_three) (defBody s_sum_of_three) (defScope s_sum_of_three) .none kV_sum_of_three dc_sum_of_three pm_sum_of_three an_sum_of_three cd_sum_of_three ct_sum_of_three), osl_sum_of_three⟩)
    (k2_sum_of_three : PySem.W.codeIn K cd_sum_of_three "sum_of_three" = true)
    (k3_sum_of_three : PySem.W.keepIn K (.ref f_sum_of_three) = true)
    (d_with_byte : PySem.W.nsIn K mainGlobals "with_byte" = some (some (.ref f_with_byte)))
    (k1_with_byte : K.lookup f_with_byte = some ⟨oc_with_byte, odd_with_byte, .func (PySem.W.fnOf "with_byte" "with_byte" (defArgs s_with_byte) (defBody s_with_byte) (defScope s_with_byte) .none kV_with_byte dc_with_byte pm_with_byte an_with_byte cd_with_byte ct_with_byte), osl_with_byte⟩)
    (k2_with_byte : PySem.W.codeIn K cd_with_byte "with_byte" = true)
    (k3_with_byte : PySem.W.keepIn K (.ref f_with_byte) = true)
    (d_with_registers : PySem.W.nsIn K mainGlobals "with_registers" = some (some (.ref f_with_registers)))
    (k1_with_registers : K.lookup f_with_registers = some ⟨oc_with_registers, odd_with_registers, .func (PySem.W.fnOf "with_registers" "with_registers" (defArgs s_with_registers) (defBody s_with_registers) (defScope s_with_registers) .none kV_with_registers dc_with_registers pm_with_registers an_with_registers cd_with_registers ct_with_registers), osl_with_registers⟩)
    (k2_with_registers : PySem.W.codeIn K cd_with_registers "with_registers" = true)
    (k3_with_registers : PySem.W.keepIn K (.ref f_with_registers) = true)
    (d_with_high_registers : PySem.W.nsIn K mainGlobals "with_high_registers" = some (some (.ref f_with_high_registers)))
    (k1_with_high_registers : K.lookup f_with_high_registers = some ⟨oc_with_high_registers, odd_with_high_registers, .func (PySem.W.fnOf "with_high_registers" "with_high_registers" (defArgs s_with_high_registers) (defBody s_with_high_registers) (defScope s_with_high_registers) .none kV_with_high_registers dc_with_high_registers pm_with_high_registers an_with_high_registers cd_with_high_registers ct_with_high_registers), osl_with_high_registers⟩)
    (k2_with_high_registers : PySem.W.codeIn K cd_with_high_registers "with_high_registers" = true)
    (k3_with_high_registers : PySem.W.keepIn K (.ref f_with_high_registers) = true)
    (d_branch_to_register : PySem.W.nsIn K mainGlobals "branch_to_register" = some (some (.ref f_branch_to_register)))
    (k1_branch_to_register : K.lookup f_branch_to_register = some ⟨oc_branch_to_register, odd_branch_to_register, .func (PySem.W.fnOf "branch_to_register" "branch_to_register" (defArgs s_branch_to_register) (defBody s_branch_to_register) (defScope s_branch_to_register) .none kV_branch_to_register dc_branch_to_register pm_branch_to_register an_branch_to_register cd_branch_to_register ct_branch_to_register), osl_branch_to_register⟩)
    (k2_branch_to_register : PySem.W.codeIn K cd_branch_to_register "branch_to_register" = true)
    (k3_branch_to_register : PySem.W.keepIn K (.ref f_branch_to_register) = true)
    (d_load_from_program : PySem.W.nsIn K mainGlobals "load_from_program" = some (some (.ref f_load_from_program)))
    (k1_load_from_program : K.lookup f_load_from_program = some ⟨oc_load_from_program, odd_load_from_program, .func (PySem.W.fnOf "load_from_program" "load_from_program" (defArgs s_load_from_program) (defBody s_load_from_program) (defScope s_load_from_program) .none kV_load_from_program dc_load_from_program pm_load_from_program an_load_from_program cd_load_from_program ct_load_from_program), osl_load_from_program⟩)
    (k2_load_from_program : PySem.W.codeIn K cd_load_from_program "load_from_program" = true)
    (k3_load_from_program : PySem.W.keepIn K (.ref f_load_from_program) = true)
    (d_move_by_register : PySem.W.nsIn K mainGlobals "move_by_register" = some (some (.ref f_move_by_register)))
    (k1_move_by_register : K.lookup f_move_by_register = some ⟨oc_move_by_register, odd_move_by_register, .func (PySem.W.fnOf "move_by_register" "move_by_register" (defArgs s_move_by_register) (defBody s_move_by_register) (defScope s_move_by_register) .none kV_move_by_register dc_move_by_register pm_move_by_register an_move_by_register cd_move_by_register ct_move_by_register), osl_move_by_register⟩)
    (k2_move_by_register : PySem.W.codeIn K cd_move_by_register "move_by_register" = true)
    (k3_move_by_register : PySem.W.keepIn K (.ref f_move_by_register) = true)
    (d_move_by_number : PySem.W.nsIn K mainGlobals "move_by_number" = some (some (.ref f_move_by_number)))
    (k1_move_by_number : K.lookup f_move_by_number = some ⟨oc_move_by_number, odd_move_by_number, .func (PySem.W.fnOf "move_by_number" "move_by_number" (defArgs s_move_by_number) (defBody s_move_by_number) (defScope s_move_by_number) .none kV_move_by_number dc_move_by_number pm_move_by_number an_move_by_number cd_move_by_number ct_move_by_number), osl_move_by_number⟩)
    (k2_move_by_number : PySem.W.codeIn K cd_move_by_number "move_by_number" = true)
    (k3_move_by_number : PySem.W.keepIn K (.ref f_move_by_number) = true)
    (d_move_on_stack : PySem.W.nsIn K mainGlobals "move_on_stack" = some (some (.ref f_move_on_stack)))
    (k1_move_on_stack : K.lookup f_move_on_stack = some ⟨oc_move_on_stack, odd_move_on_stack, .func (PySem.W.fnOf "move_on_stack" "move_on_stack" (defArgs s_move_on_stack) (defBody s_move_on_stack) (defScope s_move_on_stack) .none kV_move_on_stack dc_move_on_stack pm_move_on_stack an_move_on_stack cd_move_on_stack ct_move_on_stack), osl_move_on_stack⟩)
    (k2_move_on_stack : PySem.W.codeIn K cd_move_on_stack "move_on_stack" = true)
    (k3_move_on_stack : PySem.W.keepIn K (.ref f_move_on_stack) = true)
    (d_place_in_program : PySem.W.nsIn K mainGlobals "place_in_program" = some (some (.ref f_place_in_program)))
    (k1_place_in_program : K.lookup f_place_in_program = some ⟨oc_place_in_program, odd_place_in_program, .func (PySem.W.fnOf "place_in_program" "place_in_program" (defArgs s_place_in_program) (defBody s_place_in_program) (defScope s_place_in_program) .none kV_place_in_program dc_place_in_program pm_place_in_program an_place_in_program cd_place_in_program ct_place_in_program), osl_place_in_program⟩)
    (k2_place_in_program : PySem.W.codeIn K cd_place_in_program "place_in_program" = true)
    (k3_place_in_program : PySem.W.keepIn K (.ref f_place_in_program) = true)
    (d_place_on_stack : PySem.W.nsIn K mainGlobals "place_on_stack" = some (some (.ref f_place_on_stack)))
    (k1_place_on_stack : K.lookup f_place_on_stack = some ⟨oc_place_on_stack, odd_place_on_stack, .func (PySem.W.fnOf "place_on_stack" "place_on_stack" (defArgs s_place_on_stack) (defBody s_place_on_stack) (defScope s_place_on_stack) .none kV_place_on_stack dc_place_on_stack pm_place_on_stack an_place_on_stack cd_place_on_stack ct_place_on_stack), osl_place_on_stack⟩)
    (k2_place_on_stack : PySem.W.codeIn K cd_place_on_stack "place_on_stack" = true)
    (k3_place_on_stack : PySem.W.keepIn K (.ref f_place_on_stack) = true)
    (d_stack_pointer : PySem.W.nsIn K mainGlobals "stack_pointer" = some (some (.ref f_stack_pointer)))
    (k1_stack_pointer : K.lookup f_stack_pointer = some ⟨oc_stack_pointer, odd_stack_pointer, .func (PySem.W.fnOf "stack_pointer" "stack_pointer" (defArgs s_stack_pointer) (defBody s_stack_pointer) (defScope s_stack_pointer) .none kV_stack_pointer dc_stack_pointer pm_stack_pointer an_stack_pointer cd_stack_pointer ct_stack_pointer), osl_stack_pointer⟩)
    (k2_stack_pointer : PySem.W.codeIn K cd_stack_pointer "stack_pointer" = true)
    (k3_stack_pointer : PySem.W.keepIn K (.ref f_stack_pointer) = true)
    (d_extension : PySem.W.nsIn K mainGlobals "extension" = some (some (.ref f_extension)))
    (k1_extension : K.lookup f_extension = some ⟨oc_extension, odd_extension, .func (PySem.W.fnOf "extension" "extension" (defArgs s_extension) (defBody s_extension) (defScope s_extension) .none kV_extension dc_extension pm_extension an_extension cd_extension ct_extension), osl_extension⟩)
    (k2_extension : PySem.W.codeIn K cd_extension "extension" = true)
    (k3_extension : PySem.W.keepIn K (.ref f_extension) = true)
    (d_turned_bytes : PySem.W.nsIn K mainGlobals "turned_bytes" = some (some (.ref f_turned_bytes)))
    (k1_turned_bytes : K.lookup f_turned_bytes = some ⟨oc_turned_bytes, odd_turned_bytes, .func (PySem.W.fnOf "turned_bytes" "turned_bytes" (defArgs s_turned_bytes) (defBody s_turned_bytes) (defScope s_turned_bytes) .none kV_turned_bytes dc_turned_bytes pm_turned_bytes an_turned_bytes cd_turned_bytes ct_turned_bytes), osl_turned_bytes⟩)
    (k2_turned_bytes : PySem.W.codeIn K cd_turned_bytes "turned_bytes" = true)
    (k3_turned_bytes : PySem.W.keepIn K (.ref f_turned_bytes) = true)
    (d_listed : PySem.W.nsIn K mainGlobals "listed" = some (some (.ref f_listed)))
    (k1_listed : K.lookup f_listed = some ⟨oc_listed, odd_listed, .func (PySem.W.fnOf "listed" "listed" (defArgs s_listed) (defBody s_listed) (defScope s_listed) .none kV_listed dc_listed pm_listed an_listed cd_listed ct_listed), osl_listed⟩)
    (k2_listed : PySem.W.codeIn K cd_listed "listed" = true)
    (k3_listed : PySem.W.keepIn K (.ref f_listed) = true)
    (d_push_list : PySem.W.nsIn K mainGlobals "push_list" = some (some (.ref f_push_list)))
    (k1_push_list : K.lookup f_push_list = some ⟨oc_push_list, odd_push_list, .func (PySem.W.fnOf "push_list" "push_list" (defArgs s_push_list) (defBody s_push_list) (defScope s_push_list) .none kV_push_list dc_push_list pm_push_list an_push_list cd_push_list ct_push_list), osl_push_list⟩)
    (k2_push_list : PySem.W.codeIn K cd_push_list "push_list" = true)
    (k3_push_list : PySem.W.keepIn K (.ref f_push_list) = true)
    (d_pop_list : PySem.W.nsIn K mainGlobals "pop_list" = some (some (.ref f_pop_list)))
    (k1_pop_list : K.lookup f_pop_list = some ⟨oc_pop_list, odd_pop_list, .func (PySem.W.fnOf "pop_list" "pop_list" (defArgs s_pop_list) (defBody s_pop_list) (defScope s_pop_list) .none kV_pop_list dc_pop_list pm_pop_list an_pop_list cd_pop_list ct_pop_list), osl_pop_list⟩)
    (k2_pop_list : PySem.W.codeIn K cd_pop_list "pop_list" = true)
    (k3_pop_list : PySem.W.keepIn K (.ref f_pop_list) = true)
    (d_bkpt : PySem.W.nsIn K mainGlobals "bkpt" = some (some (.ref f_bkpt)))
    (k1_bkpt : K.lookup f_bkpt = some ⟨oc_bkpt, odd_bkpt, .func (PySem.W.fnOf "bkpt" "bkpt" (defArgs s_bkpt) (defBody s_bkpt) (defScope s_bkpt) .none kV_bkpt dc_bkpt pm_bkpt an_bkpt cd_bkpt ct_bkpt), osl_bkpt⟩)
    (k2_bkpt : PySem.W.codeIn K cd_bkpt "bkpt" = true)
    (k3_bkpt : PySem.W.keepIn K (.ref f_bkpt) = true)
    (d_hint : PySem.W.nsIn K mainGlobals "hint" = some (some (.ref f_hint)))
    (k1_hint : K.lookup f_hint = some ⟨oc_hint, odd_hint, .func (PySem.W.fnOf "hint" "hint" (defArgs s_hint) (defBody s_hint) (defScope s_hint) .none kV_hint dc_hint pm_hint an_hint cd_hint ct_hint), osl_hint⟩)
    (k2_hint : PySem.W.codeIn K cd_hint "hint" = true)
    (k3_hint : PySem.W.keepIn K (.ref f_hint) = true)
    (d_odds : PySem.W.nsIn K mainGlobals "odds" = some (some (.ref f_odds)))
    (k1_odds : K.lookup f_odds = some ⟨oc_odds, odd_odds, .func (PySem.W.fnOf "odds" "odds" (defArgs s_odds) (defBody s_odds) (defScope s_odds) .none kV_odds dc_odds pm_odds an_odds cd_odds ct_odds), osl_odds⟩)
    (k2_odds : PySem.W.codeIn K cd_odds "odds" = true)
    (k3_odds : PySem.W.keepIn K (.ref f_odds) = true)
    (d_store_list : PySem.W.nsIn K mainGlobals "store_list" = some (some (.ref f_store_list)))
    (k1_store_list : K.lookup f_store_list = some ⟨oc_store_list, odd_store_list, .func (PySem.W.fnOf "store_list" "store_list" (defArgs s_store_list) (defBody s_store_list) (defScope s_store_list) .none kV_store_list dc_store_list pm_store_list an_store_list cd_store_list ct_store_list), osl_store_list⟩)
    (k2_store_list : PySem.W.codeIn K cd_store_list "store_list" = true)
    (k3_store_list : PySem.W.keepIn K (.ref f_store_list) = true)
    (d_load_list : PySem.W.nsIn K mainGlobals "load_list" = some (some (.ref f_load_list)))
    (k1_load_list : K.lookup f_load_list = some ⟨oc_load_list, odd_load_list, .func (PySem.W.fnOf "load_list" "load_list" (defArgs s_load_list) (defBody s_load_list) (defScope s_load_list) .none kV_load_list dc_load_list pm_load_list an_load_list cd_load_list ct_load_list), osl_load_list⟩)
    (k2_load_list : PySem.W.codeIn K cd_load_list "load_list" = true)
    (k3_load_list : PySem.W.keepIn K (.ref f_load_list) = true)
    (d_branch_if : PySem.W.nsIn K mainGlobals "branch_if" = some (some (.ref f_branch_if)))
    (k1_branch_if : K.lookup f_branch_if = some ⟨oc_branch_if, odd_branch_if, .func (PySem.W.fnOf "branch_if" "branch_if" (defArgs s_branch_if) (defBody s_branch_if) (defScope s_branch_if) .none kV_branch_if dc_branch_if pm_branch_if an_branch_if cd_branch_if ct_branch_if), osl_branch_if⟩)
    (k2_branch_if : PySem.W.codeIn K cd_branch_if "branch_if" = true)
    (k3_branch_if : PySem.W.keepIn K (.ref f_branch_if) = true)
    (d_branch : PySem.W.nsIn K mainGlobals "branch" = some (some (.ref f_branch)))
    (k1_branch : K.lookup f_branch = some ⟨oc_branch, odd_branch, .func (PySem.W.fnOf "branch" "branch" (defArgs s_branch) (defBody s_branch) (defScope s_branch) .none kV_branch dc_branch pm_branch an_branch cd_branch ct_branch), osl_branch⟩)
    (k2_branch : PySem.W.codeIn K cd_branch "branch" = true)
    (k3_branch : PySem.W.keepIn K (.ref f_branch) = true)
    (d_wide : PySem.W.nsIn K mainGlobals "wide" = some (some (.ref f_wide)))
    (k1_wide : K.lookup f_wide = some ⟨oc_wide, odd_wide, .func (PySem.W.fnOf "wide" "wide" (defArgs s_wide) (defBody s_wide) (defScope s_wide) .none kV_wide dc_wide pm_wide an_wide cd_wide ct_wide), osl_wide⟩)
    (k2_wide : PySem.W.codeIn K cd_wide "wide" = true)
    (k3_wide : PySem.W.keepIn K (.ref f_wide) = true)
    (d_distance : PySem.W.nsIn K mainGlobals "distance" = some (some (.ref f_distance)))
    (k1_distance : K.lookup f_distance = some ⟨oc_distance, odd_distance, .func (PySem.W.fnOf "distance" "distance" (defArgs s_distance) (defBody s_distance) (defScope s_distance) .none kV_distance dc_distance pm_distance an_distance cd_distance ct_distance), osl_distance⟩)
    (k2_distance : PySem.W.codeIn K cd_distance "distance" = true)
    (k3_distance : PySem.W.keepIn K (.ref f_distance) = true)
    (d_is_first_half : PySem.W.nsIn K mainGlobals "is_first_half" = some (some (.ref f_is_first_half)))
    (k1_is_first_half : K.lookup f_is_first_half = some ⟨oc_is_first_half, odd_is_first_half, .func (PySem.W.fnOf "is_first_half" "is_first_half" (defArgs s_is_first_half) (defBody s_is_first_half) (defScope s_is_first_half) .none kV_is_first_half dc_is_first_half pm_is_first_half an_is_first_half cd_is_first_half ct_is_first_half), osl_is_first_half⟩)
    (k2_is_first_half : PySem.W.codeIn K cd_is_first_half "is_first_half" = true)
    (k3_is_first_half : PySem.W.keepIn K (.ref f_is_first_half) = true)
    (d_instruction_at : PySem.W.nsIn K mainGlobals "instruction_at" = some (some (.ref f_instruction_at)))
    (k1_instruction_at : K.lookup f_instruction_at = some ⟨oc_instruction_at, odd_instruction_at, .func (PySem.W.fnOf "instruction_at" "instruction_at" (defArgs s_instruction_at) (defBody s_instruction_at) (defScope s_instruction_at) .none kV_instruction_at dc_instruction_at pm_instruction_at an_instruction_at cd_instruction_at ct_instruction_at), osl_instruction_at⟩)
    (k2_instruction_at : PySem.W.codeIn K cd_instruction_at "instruction_at" = true)
    (k3_instruction_at : PySem.W.keepIn K (.ref f_instruction_at) = true)
    (d_length_of : PySem.W.nsIn K mainGlobals "length_of" = some (some (.ref f_length_of)))
    (k1_length_of : K.lookup f_length_of = some ⟨oc_length_of, odd_length_of, .func (PySem.W.fnOf "length_of" "length_of" (defArgs s_length_of) (defBody s_length_of) (defScope s_length_of) .none kV_length_of dc_length_of pm_length_of an_length_of cd_length_of ct_length_of), osl_length_of⟩)
    (k2_length_of : PySem.W.codeIn K cd_length_of "length_of" = true)
    (k3_length_of : PySem.W.keepIn K (.ref f_length_of) = true)
    (d_hexadecimal : PySem.W.nsIn K mainGlobals "hexadecimal" = some (some (.ref f_hexadecimal)))
    (k1_hexadecimal : K.lookup f_hexadecimal = some ⟨oc_hexadecimal, odd_hexadecimal, .func (PySem.W.fnOf "hexadecimal" "hexadecimal" (defArgs s_hexadecimal) (defBody s_hexadecimal) (defScope s_hexadecimal) .none kV_hexadecimal dc_hexadecimal pm_hexadecimal an_hexadecimal cd_hexadecimal ct_hexadecimal), osl_hexadecimal⟩)
    (k2_hexadecimal : PySem.W.codeIn K cd_hexadecimal "hexadecimal" = true)
    (k3_hexadecimal : PySem.W.keepIn K (.ref f_hexadecimal) = true)
    (d_written_d : PySem.W.nsIn K mainGlobals "written_d" = some (some (.ref f_written_d)))
    (k1_written_d : K.lookup f_written_d = some ⟨oc_written_d, odd_written_d, .func (PySem.W.fnOf "written_d" "written_d" (defArgs s_written_d) (defBody s_written_d) (defScope s_written_d) .none kV_written_d dc_written_d pm_written_d an_written_d cd_written_d ct_written_d), osl_written_d⟩)
    (k2_written_d : PySem.W.codeIn K cd_written_d "written_d" = true)
    (k3_written_d : PySem.W.keepIn K (.ref f_written_d) = true)
    (d_written_n : PySem.W.nsIn K mainGlobals "written_n" = some (some (.ref f_written_n)))
    (k1_written_n : K.lookup f_written_n = some ⟨oc_written_n, odd_written_n, .func (PySem.W.fnOf "written_n" "written_n" (defArgs s_written_n) (defBody s_written_n) (defScope s_written_n) .none kV_written_n dc_written_n pm_written_n an_written_n cd_written_n ct_written_n), osl_written_n⟩)
    (k2_written_n : PySem.W.codeIn K cd_written_n "written_n" = true)
    (k3_written_n : PySem.W.keepIn K (.ref f_written_n) = true)
    (d_written_second : PySem.W.nsIn K mainGlobals "written_second" = some (some (.ref f_written_second)))
    (k1_written_second : K.lookup f_written_second = some ⟨oc_written_second, odd_written_second, .func (PySem.W.fnOf "written_second" "written_second" (defArgs s_written_second) (defBody s_written_second) (defScope s_written_second) .none kV_written_second dc_written_second pm_written_second an_written_second cd_written_second ct_written_second), osl_written_second⟩)
    (k2_written_second : PySem.W.codeIn K cd_written_second "written_second" = true)
    (k3_written_second : PySem.W.keepIn K (.ref f_written_second) = true)
    (d_written_zero : PySem.W.nsIn K mainGlobals "written_zero" = some (some (.ref f_written_zero)))
    (k1_written_zero : K.lookup f_written_zero = some ⟨oc_written_zero, odd_written_zero, .func (PySem.W.fnOf "written_zero" "written_zero" (defArgs s_written_zero) (defBody s_written_zero) (defScope s_written_zero) .none kV_written_zero dc_written_zero pm_written_zero an_written_zero cd_written_zero ct_written_zero), osl_written_zero⟩)
    (k2_written_zero : PySem.W.codeIn K cd_written_zero "written_zero" = true)
    (k3_written_zero : PySem.W.keepIn K (.ref f_written_zero) = true)
    (d_written_place : PySem.W.nsIn K mainGlobals "written_place" = some (some (.ref f_written_place)))
    (k1_written_place : K.lookup f_written_place = some ⟨oc_written_place, odd_written_place, .func (PySem.W.fnOf "written_place" "written_place" (defArgs s_written_place) (defBody s_written_place) (defScope s_written_place) .none kV_written_place dc_written_place pm_written_place an_written_place cd_written_place ct_written_place), osl_written_place⟩)
    (k2_written_place : PySem.W.codeIn K cd_written_place "written_place" = true)
    (k3_written_place : PySem.W.keepIn K (.ref f_written_place) = true)
    (d_written_base : PySem.W.nsIn K mainGlobals "written_base" = some (some (.ref f_written_base)))
    (k1_written_base : K.lookup f_written_base = some ⟨oc_written_base, odd_written_base, .func (PySem.W.fnOf "written_base" "written_base" (defArgs s_written_base) (defBody s_written_base) (defScope s_written_base) .none kV_written_base dc_written_base pm_written_base an_written_base cd_written_base ct_written_base), osl_written_base⟩)
    (k2_written_base : PySem.W.codeIn K cd_written_base "written_base" = true)
    (k3_written_base : PySem.W.keepIn K (.ref f_written_base) = true)
    (d_written_list : PySem.W.nsIn K mainGlobals "written_list" = some (some (.ref f_written_list)))
    (k1_written_list : K.lookup f_written_list = some ⟨oc_written_list, odd_written_list, .func (PySem.W.fnOf "written_list" "written_list" (defArgs s_written_list) (defBody s_written_list) (defScope s_written_list) .none kV_written_list dc_written_list pm_written_list an_written_list cd_written_list ct_written_list), osl_written_list⟩)
    (k2_written_list : PySem.W.codeIn K cd_written_list "written_list" = true)
    (k3_written_list : PySem.W.keepIn K (.ref f_written_list) = true)
    (d_written_target : PySem.W.nsIn K mainGlobals "written_target" = some (some (.ref f_written_target)))
    (k1_written_target : K.lookup f_written_target = some ⟨oc_written_target, odd_written_target, .func (PySem.W.fnOf "written_target" "written_target" (defArgs s_written_target) (defBody s_written_target) (defScope s_written_target) .none kV_written_target dc_written_target pm_written_target an_written_target cd_written_target ct_written_target), osl_written_target⟩)
    (k2_written_target : PySem.W.codeIn K cd_written_target "written_target" = true)
    (k3_written_target : PySem.W.keepIn K (.ref f_written_target) = true)
    (d_written_name : PySem.W.nsIn K mainGlobals "written_name" = some (some (.ref f_written_name)))
    (k1_written_name : K.lookup f_written_name = some ⟨oc_written_name, odd_written_name, .func (PySem.W.fnOf "written_name" "written_name" (defArgs s_written_name) (defBody s_written_name) (defScope s_written_name) .none kV_written_name dc_written_name pm_written_name an_written_name cd_written_name ct_written_name), osl_written_name⟩)
    (k2_written_name : PySem.W.codeIn K cd_written_name "written_name" = true)
    (k3_written_name : PySem.W.keepIn K (.ref f_written_name) = true)
    (d_instruction_text : PySem.W.nsIn K mainGlobals "instruction_text" = some (some (.ref f_instruction_text)))
    (k1_instruction_text : K.lookup f_instruction_text = some ⟨oc_instruction_text, odd_instruction_text, .func (PySem.W.fnOf "instruction_text" "instruction_text" (defArgs s_instruction_text) (defBody s_instruction_text) (defScope s_instruction_text) .none kV_instruction_text dc_instruction_text pm_instruction_text an_instruction_text cd_instruction_text ct_instruction_text), osl_instruction_text⟩)
    (k2_instruction_text : PySem.W.codeIn K cd_instruction_text "instruction_text" = true)
    (k3_instruction_text : PySem.W.keepIn K (.ref f_instruction_text) = true)
    (d_half_text : PySem.W.nsIn K mainGlobals "half_text" = some (some (.ref f_half_text)))
    (k1_half_text : K.lookup f_half_text = some ⟨oc_half_text, odd_half_text, .func (PySem.W.fnOf "half_text" "half_text" (defArgs s_half_text) (defBody s_half_text) (defScope s_half_text) .none kV_half_text dc_half_text pm_half_text an_half_text cd_half_text ct_half_text), osl_half_text⟩)
    (k2_half_text : PySem.W.codeIn K cd_half_text "half_text" = true)
    (k3_half_text : PySem.W.keepIn K (.ref f_half_text) = true)
    (d_show : PySem.W.nsIn K mainGlobals "show" = some (some (.ref f_show)))
    (k1_show : K.lookup f_show = some ⟨oc_show, odd_show, .func (PySem.W.fnOf "show" "show" (defArgs s_show) (defBody s_show) (defScope s_show) .none kV_show dc_show pm_show an_show cd_show ct_show), osl_show⟩)
    (k2_show : PySem.W.codeIn K cd_show "show" = true)
    (k3_show : PySem.W.keepIn K (.ref f_show) = true)
    (d_bytes_of_text : PySem.W.nsIn K mainGlobals "bytes_of_text" = some (some (.ref f_bytes_of_text)))
    (k1_bytes_of_text : K.lookup f_bytes_of_text = some ⟨oc_bytes_of_text, odd_bytes_of_text, .func (PySem.W.fnOf "bytes_of_text" "bytes_of_text" (defArgs s_bytes_of_text) (defBody s_bytes_of_text) (defScope s_bytes_of_text) .none kV_bytes_of_text dc_bytes_of_text pm_bytes_of_text an_bytes_of_text cd_bytes_of_text ct_bytes_of_text), osl_bytes_of_text⟩)
    (k2_bytes_of_text : PySem.W.codeIn K cd_bytes_of_text "bytes_of_text" = true)
    (k3_bytes_of_text : PySem.W.keepIn K (.ref f_bytes_of_text) = true)
    (n_len : PySem.W.nsIn K mainGlobals "len" = some none)
    (n_ord : PySem.W.nsIn K mainGlobals "ord" = some none)
    (n_range : PySem.W.nsIn K mainGlobals "range" = some none)
    (n_tuple : PySem.W.nsIn K mainGlobals "tuple" = some none)
    (n_zip : PySem.W.nsIn K mainGlobals "zip" = some none)
    (c_SIZE : PySem.W.nsIn K mainGlobals "SIZE" = some (some (.int ((65536 : Nat) : Int) t_SIZE)))
    (c_WORD : PySem.W.nsIn K mainGlobals "WORD" = some (some (.int ((4294967295 : Nat) : Int) t_WORD)))
    (c_SP : PySem.W.nsIn K mainGlobals "SP" = some (some (.int ((13 : Nat) : Int) t_SP)))
    (c_LR : PySem.W.nsIn K mainGlobals "LR" = some (some (.int ((14 : Nat) : Int) t_LR)))
    (c_PC : PySem.W.nsIn K mainGlobals "PC" = some (some (.int ((15 : Nat) : Int) t_PC)))
    (c_NONE : PySem.W.nsIn K mainGlobals "NONE" = some (some (.ref a_NONE)))
    (l_NONE : K.lookup a_NONE = some ⟨.type "tuple", od_NONE, .seq it_NONE nn_NONE, sl_NONE⟩)
    (v_NONE : it_NONE.toList.map absV = ([.str "none", .non, .non, .non, .int 0, .ref e_NONE] : List V).map some)
    (z_NONE : it_NONE.size ≤ 100000)
    (l_NONE2 : K.lookup e_NONE = some ⟨.type "tuple", od_NONE2, .seq it_NONE2 nn_NONE2, sl_NONE2⟩)
    (v_NONE2 : it_NONE2.toList.map absV = ([] : List V).map some)
    (z_NONE2 : it_NONE2.size ≤ 100000)
    (c_WIDE : PySem.W.nsIn K mainGlobals "WIDE" = some (some (.int ((30 : Nat) : Int) t_WIDE)))
    (c_ALONE : PySem.W.nsIn K mainGlobals "ALONE" = some (some (.ref a_ALONE)))
    (l_ALONE : K.lookup a_ALONE = some ⟨.type "tuple", od_ALONE, .seq it_ALONE nn_ALONE, sl_ALONE⟩)
    (v_ALONE : it_ALONE.toList.map absV = ([] : List V).map some)
    (z_ALONE : it_ALONE.size ≤ 100000)
    (c_OF_ONE : PySem.W.nsIn K mainGlobals "OF_ONE" = some (some (.ref a_OF_ONE)))
    (l_OF_ONE : K.lookup a_OF_ONE = some ⟨.type "tuple", od_OF_ONE, .seq it_OF_ONE nn_OF_ONE, sl_OF_ONE⟩)
    (v_OF_ONE : it_OF_ONE.toList.map absV = ([.str "second"] : List V).map some)
    (z_OF_ONE : it_OF_ONE.size ≤ 100000)
    (c_OF_TWO : PySem.W.nsIn K mainGlobals "OF_TWO" = some (some (.ref a_OF_TWO)))
    (l_OF_TWO : K.lookup a_OF_TWO = some ⟨.type "tuple", od_OF_TWO, .seq it_OF_TWO nn_OF_TWO, sl_OF_TWO⟩)
    (v_OF_TWO : it_OF_TWO.toList.map absV = ([.str "d", .str "second"] : List V).map some)
    (z_OF_TWO : it_OF_TWO.size ≤ 100000)
    (c_OF_TWO_AND_ZERO : PySem.W.nsIn K mainGlobals "OF_TWO_AND_ZERO" = some (some (.ref a_OF_TWO_AND_ZERO)))
    (l_OF_TWO_AND_ZERO : K.lookup a_OF_TWO_AND_ZERO = some ⟨.type "tuple", od_OF_TWO_AND_ZERO, .seq it_OF_TWO_AND_ZERO nn_OF_TWO_AND_ZERO, sl_OF_TWO_AND_ZERO⟩)
    (v_OF_TWO_AND_ZERO : it_OF_TWO_AND_ZERO.toList.map absV = ([.str "d", .str "second", .str "zero"] : List V).map some)
    (z_OF_TWO_AND_ZERO : it_OF_TWO_AND_ZERO.size ≤ 100000)
    (c_OF_THREE : PySem.W.nsIn K mainGlobals "OF_THREE" = some (some (.ref a_OF_THREE)))
    (l_OF_THREE : K.lookup a_OF_THREE = some ⟨.type "tuple", od_OF_THREE, .seq it_OF_THREE nn_OF_THREE, sl_OF_THREE⟩)
    (v_OF_THREE : it_OF_THREE.toList.map absV = ([.str "d", .str "n", .str "second"] : List V).map some)
    (z_OF_THREE : it_OF_THREE.size ≤ 100000)
    (c_WITH_PLACE : PySem.W.nsIn K mainGlobals "WITH_PLACE" = some (some (.ref a_WITH_PLACE)))
    (l_WITH_PLACE : K.lookup a_WITH_PLACE = some ⟨.type "tuple", od_WITH_PLACE, .seq it_WITH_PLACE nn_WITH_PLACE, sl_WITH_PLACE⟩)
    (v_WITH_PLACE : it_WITH_PLACE.toList.map absV = ([.str "d", .str "place"] : List V).map some)
    (z_WITH_PLACE : it_WITH_PLACE.size ≤ 100000)
    (c_WITH_LIST : PySem.W.nsIn K mainGlobals "WITH_LIST" = some (some (.ref a_WITH_LIST)))
    (l_WITH_LIST : K.lookup a_WITH_LIST = some ⟨.type "tuple", od_WITH_LIST, .seq it_WITH_LIST nn_WITH_LIST, sl_WITH_LIST⟩)
    (v_WITH_LIST : it_WITH_LIST.toList.map absV = ([.str "list"] : List V).map some)
    (z_WITH_LIST : it_WITH_LIST.size ≤ 100000)
    (c_WITH_BASE_AND_LIST : PySem.W.nsIn K mainGlobals "WITH_BASE_AND_LIST" = some (some (.ref a_WITH_BASE_AND_LIST)))
    (l_WITH_BASE_AND_LIST : K.lookup a_WITH_BASE_AND_LIST = some ⟨.type "tuple", od_WITH_BASE_AND_LIST, .seq it_WITH_BASE_AND_LIST nn_WITH_BASE_AND_LIST, sl_WITH_BASE_AND_LIST⟩)
    (v_WITH_BASE_AND_LIST : it_WITH_BASE_AND_LIST.toList.map absV = ([.str "base", .str "list"] : List V).map some)
    (z_WITH_BASE_AND_LIST : it_WITH_BASE_AND_LIST.size ≤ 100000)
    (c_WITH_TARGET : PySem.W.nsIn K mainGlobals "WITH_TARGET" = some (some (.ref a_WITH_TARGET)))
    (l_WITH_TARGET : K.lookup a_WITH_TARGET = some ⟨.type "tuple", od_WITH_TARGET, .seq it_WITH_TARGET nn_WITH_TARGET, sl_WITH_TARGET⟩)
    (v_WITH_TARGET : it_WITH_TARGET.toList.map absV = ([.str "target"] : List V).map some)
    (z_WITH_TARGET : it_WITH_TARGET.size ≤ 100000)
    (c_SHIFTS : PySem.W.nsIn K mainGlobals "SHIFTS" = some (some (.ref a_SHIFTS)))
    (l_SHIFTS : K.lookup a_SHIFTS = some ⟨.type "tuple", od_SHIFTS, .seq it_SHIFTS nn_SHIFTS, sl_SHIFTS⟩)
    (v_SHIFTS : it_SHIFTS.toList.map absV = ([.str "lsls", .str "lsrs", .str "asrs"] : List V).map some)
    (z_SHIFTS : it_SHIFTS.size ≤ 100000)
    (c_WITH_BYTE : PySem.W.nsIn K mainGlobals "WITH_BYTE" = some (some (.ref a_WITH_BYTE)))
    (l_WITH_BYTE : K.lookup a_WITH_BYTE = some ⟨.type "tuple", od_WITH_BYTE, .seq it_WITH_BYTE nn_WITH_BYTE, sl_WITH_BYTE⟩)
    (v_WITH_BYTE : it_WITH_BYTE.toList.map absV = ([.str "movs", .str "cmp", .str "adds", .str "subs"] : List V).map some)
    (z_WITH_BYTE : it_WITH_BYTE.size ≤ 100000)
    (c_TWO_LOW : PySem.W.nsIn K mainGlobals "TWO_LOW" = some (some (.ref a_TWO_LOW)))
    (l_TWO_LOW : K.lookup a_TWO_LOW = some ⟨.type "tuple", od_TWO_LOW, .seq it_TWO_LOW nn_TWO_LOW, sl_TWO_LOW⟩)
    (v_TWO_LOW : it_TWO_LOW.toList.map absV = ([.str "ands", .str "eors", .str "lsls", .str "lsrs", .str "asrs", .str "adcs", .str "sbcs", .str "rors", .str "tst", .str "rsbs", .str "cmp", .str "cmn", .str "orrs", .str "muls", .str "bics", .str "mvns"] : List V).map some)
    (z_TWO_LOW : it_TWO_LOW.size ≤ 100000)
    (c_TWO_HIGH : PySem.W.nsIn K mainGlobals "TWO_HIGH" = some (some (.ref a_TWO_HIGH)))
    (l_TWO_HIGH : K.lookup a_TWO_HIGH = some ⟨.type "tuple", od_TWO_HIGH, .seq it_TWO_HIGH nn_TWO_HIGH, sl_TWO_HIGH⟩)
    (v_TWO_HIGH : it_TWO_HIGH.toList.map absV = ([.str "add", .str "cmp", .str "mov"] : List V).map some)
    (z_TWO_HIGH : it_TWO_HIGH.size ≤ 100000)
    (c_BY_REGISTER : PySem.W.nsIn K mainGlobals "BY_REGISTER" = some (some (.ref a_BY_REGISTER)))
    (l_BY_REGISTER : K.lookup a_BY_REGISTER = some ⟨.type "tuple", od_BY_REGISTER, .seq it_BY_REGISTER nn_BY_REGISTER, sl_BY_REGISTER⟩)
    (v_BY_REGISTER : it_BY_REGISTER.toList.map absV = ([.str "str", .str "strh", .str "strb", .str "ldrsb", .str "ldr", .str "ldrh", .str "ldrb", .str "ldrsh"] : List V).map some)
    (z_BY_REGISTER : it_BY_REGISTER.size ≤ 100000)
    (c_BY_NUMBER : PySem.W.nsIn K mainGlobals "BY_NUMBER" = some (some (.ref a_BY_NUMBER)))
    (l_BY_NUMBER : K.lookup a_BY_NUMBER = some ⟨.type "tuple", od_BY_NUMBER, .seq it_BY_NUMBER nn_BY_NUMBER, sl_BY_NUMBER⟩)
    (v_BY_NUMBER : it_BY_NUMBER.toList.map absV = ([.ref e0_BY_NUMBER, .ref e1_BY_NUMBER, .ref e2_BY_NUMBER, .ref e3_BY_NUMBER, .ref e4_BY_NUMBER, .ref e5_BY_NUMBER] : List V).map some)
    (z_BY_NUMBER : it_BY_NUMBER.size ≤ 100000)
    (l_BY_NUMBER0 : K.lookup e0_BY_NUMBER = some ⟨.type "tuple", od_BY_NUMBER0, .seq it_BY_NUMBER0 nn_BY_NUMBER0, sl_BY_NUMBER0⟩)
    (v_BY_NUMBER0 : it_BY_NUMBER0.toList.map absV = ([.str "str", .int 4] : List V).map some)
    (z_BY_NUMBER0 : it_BY_NUMBER0.size ≤ 100000)
    (l_BY_NUMBER1 : K.lookup e1_BY_NUMBER = some ⟨.type "tuple", od_BY_NUMBER1, .seq it_BY_NUMBER1 nn_BY_NUMBER1, sl_BY_NUMBER1⟩)
    (v_BY_NUMBER1 : it_BY_NUMBER1.toList.map absV = ([.str "ldr", .int 4] : List V).map some)
    (z_BY_NUMBER1 : it_BY_NUMBER1.size ≤ 100000)
    (l_BY_NUMBER2 : K.lookup e2_BY_NUMBER = some ⟨.type "tuple", od_BY_NUMBER2, .seq it_BY_NUMBER2 nn_BY_NUMBER2, sl_BY_NUMBER2⟩)
    (v_BY_NUMBER2 : it_BY_NUMBER2.toList.map absV = ([.str "strb", .int 1] : List V).map some)
    (z_BY_NUMBER2 : it_BY_NUMBER2.size ≤ 100000)
    (l_BY_NUMBER3 : K.lookup e3_BY_NUMBER = some ⟨.type "tuple", od_BY_NUMBER3, .seq it_BY_NUMBER3 nn_BY_NUMBER3, sl_BY_NUMBER3⟩)
    (v_BY_NUMBER3 : it_BY_NUMBER3.toList.map absV = ([.str "ldrb", .int 1] : List V).map some)
    (z_BY_NUMBER3 : it_BY_NUMBER3.size ≤ 100000)
    (l_BY_NUMBER4 : K.lookup e4_BY_NUMBER = some ⟨.type "tuple", od_BY_NUMBER4, .seq it_BY_NUMBER4 nn_BY_NUMBER4, sl_BY_NUMBER4⟩)
    (v_BY_NUMBER4 : it_BY_NUMBER4.toList.map absV = ([.str "strh", .int 2] : List V).map some)
    (z_BY_NUMBER4 : it_BY_NUMBER4.size ≤ 100000)
    (l_BY_NUMBER5 : K.lookup e5_BY_NUMBER = some ⟨.type "tuple", od_BY_NUMBER5, .seq it_BY_NUMBER5 nn_BY_NUMBER5, sl_BY_NUMBER5⟩)
    (v_BY_NUMBER5 : it_BY_NUMBER5.toList.map absV = ([.str "ldrh", .int 2] : List V).map some)
    (z_BY_NUMBER5 : it_BY_NUMBER5.size ≤ 100000)
    (c_EXTENSIONS : PySem.W.nsIn K mainGlobals "EXTENSIONS" = some (some (.ref a_EXTENSIONS)))
    (l_EXTENSIONS : K.lookup a_EXTENSIONS = some ⟨.type "tuple", od_EXTENSIONS, .seq it_EXTENSIONS nn_EXTENSIONS, sl_EXTENSIONS⟩)
    (v_EXTENSIONS : it_EXTENSIONS.toList.map absV = ([.str "sxth", .str "sxtb", .str "uxth", .str "uxtb"] : List V).map some)
    (z_EXTENSIONS : it_EXTENSIONS.size ≤ 100000)
    (c_TURNS : PySem.W.nsIn K mainGlobals "TURNS" = some (some (.ref a_TURNS)))
    (l_TURNS : K.lookup a_TURNS = some ⟨.type "tuple", od_TURNS, .seq it_TURNS nn_TURNS, sl_TURNS⟩)
    (v_TURNS : it_TURNS.toList.map absV = ([.str "rev", .str "rev16", .str "none", .str "revsh"] : List V).map some)
    (z_TURNS : it_TURNS.size ≤ 100000)
    (c_ODDS : PySem.W.nsIn K mainGlobals "ODDS" = some (some (.ref a_ODDS)))
    (l_ODDS : K.lookup a_ODDS = some ⟨.type "tuple", od_ODDS, .seq it_ODDS nn_ODDS, sl_ODDS⟩)
    (v_ODDS : it_ODDS.toList.map absV = ([.ref f_stack_pointer, .ref f_no_instruction, .ref f_extension, .ref f_no_instruction, .ref f_push_list, .ref f_push_list, .ref f_no_instruction, .ref f_no_instruction, .ref f_no_instruction, .ref f_no_instruction, .ref f_turned_bytes, .ref f_no_instruction, .ref f_pop_list, .ref f_pop_list, .ref f_bkpt, .ref f_hint] : List V).map some)
    (z_ODDS : it_ODDS.size ≤ 100000)
    (c_BY_HIGHEST_BITS : PySem.W.nsIn K mainGlobals "BY_HIGHEST_BITS" = some (some (.ref a_BY_HIGHEST_BITS)))
    (l_BY_HIGHEST_BITS : K.lookup a_BY_HIGHEST_BITS = some ⟨.type "tuple", od_BY_HIGHEST_BITS, .seq it_BY_HIGHEST_BITS nn_BY_HIGHEST_BITS, sl_BY_HIGHEST_BITS⟩)
    (v_BY_HIGHEST_BITS : it_BY_HIGHEST_BITS.toList.map absV = ((([.ref f_shift_by_number, .ref f_shift_by_number, .ref f_shift_by_number, .ref f_sum_of_three, .ref f_with_byte, .ref f_with_byte, .ref f_with_byte, .ref f_with_byte, .ref f_with_registers, .ref f_load_from_program, .ref f_move_by_register, .ref f_move_by_register, .ref f_move_by_number, .ref f_move_by_number, .ref f_move_by_number, .ref f_move_by_number, .ref f_move_by_number, .ref f_move_by_number, .ref f_move_on_stack, .ref f_move_on_stack] : List V) ++ ([.ref f_place_in_program, .ref f_place_on_stack, .ref f_odds, .ref f_odds, .ref f_store_list, .ref f_load_list, .ref f_branch_if, .ref f_branch_if, .ref f_branch, .ref f_no_instruction, .ref f_no_instruction, .ref f_no_instruction] : List V)) : List V).map some)
    (z_BY_HIGHEST_BITS : it_BY_HIGHEST_BITS.size ≤ 100000)
    (c_REGISTERS : PySem.W.nsIn K mainGlobals "REGISTERS" = some (some (.ref a_REGISTERS)))
    (l_REGISTERS : K.lookup a_REGISTERS = some ⟨.type "tuple", od_REGISTERS, .seq it_REGISTERS nn_REGISTERS, sl_REGISTERS⟩)
    (v_REGISTERS : it_REGISTERS.toList.map absV = ([.str "r0", .str "r1", .str "r2", .str "r3", .str "r4", .str "r5", .str "r6", .str "r7", .str "r8", .str "r9", .str "r10", .str "r11", .str "r12", .str "sp", .str "lr", .str "pc"] : List V).map some)
    (z_REGISTERS : it_REGISTERS.size ≤ 100000)
    (c_CONDITIONS : PySem.W.nsIn K mainGlobals "CONDITIONS" = some (some (.ref a_CONDITIONS)))
    (l_CONDITIONS : K.lookup a_CONDITIONS = some ⟨.type "tuple", od_CONDITIONS, .seq it_CONDITIONS nn_CONDITIONS, sl_CONDITIONS⟩)
    (v_CONDITIONS : it_CONDITIONS.toList.map absV = ([.str "eq", .str "ne", .str "cs", .str "cc", .str "mi", .str "pl", .str "vs", .str "vc", .str "hi", .str "ls", .str "ge", .str "lt", .str "gt", .str "le"] : List V).map some)
    (z_CONDITIONS : it_CONDITIONS.size ≤ 100000)
    (c_DIGITS : PySem.W.nsIn K mainGlobals "DIGITS" = some (some (.str "0123456789abcdef" t_DIGITS)))
    (c_WRITTEN_LIKE : PySem.W.nsIn K mainGlobals "WRITTEN_LIKE" = some (some (.ref a_WRITTEN_LIKE)))
    (l_WRITTEN_LIKE : K.lookup a_WRITTEN_LIKE = some ⟨.type "dict", none, .dict es_WRITTEN_LIKE nn_WRITTEN_LIKE, #[]⟩)
    (s_WRITTEN_LIKE : (a_WRITTEN_LIKE == sysModules) = false)
    (r_WRITTEN_LIKE : KTD.Rows RelV es_WRITTEN_LIKE.toList ([("ldr_pc", .str "ldr"), ("add_pc", .str "add")] : List (Str × V)))
    (c_WRITERS : PySem.W.nsIn K mainGlobals "WRITERS" = some (some (.ref a_WRITERS)))
    (l_WRITERS : K.lookup a_WRITERS = some ⟨.type "dict", none, .dict es_WRITERS nn_WRITERS, #[]⟩)
    (s_WRITERS : (a_WRITERS == sysModules) = false)
    (r_WRITERS : KTD.Rows RelV es_WRITERS.toList ([("d", .ref f_written_d), ("n", .ref f_written_n), ("second", .ref f_written_second), ("zero", .ref f_written_zero), ("place", .ref f_written_place), ("base", .ref f_written_base), ("list", .ref f_written_list), ("target", .ref f_written_target)] : List (Str × V))) : Txt K mg :=
  ⟨PySem.W.mg_none_of X G n_len,
    PySem.W.mg_none_of X G n_ord,
    PySem.W.mg_none_of X G n_range,
    PySem.W.mg_none_of X G n_tuple,
    PySem.W.mg_none_of X G n_zip,
    ⟨_, PySem.W.mg_of X G c_SIZE⟩,
    ⟨_, PySem.W.mg_of X G c_WORD⟩,
    ⟨_, PySem.W.mg_of X G c_SP⟩,
    ⟨_, PySem.W.mg_of X G c_LR⟩,
    ⟨_, PySem.W.mg_of X G c_PC⟩,
    ⟨_, PySem.W.mg_of X G c_NONE, _, tupK_mk l_NONE v_NONE z_NONE, tupK_mk l_NONE2 v_NONE2 z_NONE2⟩,
    ⟨_, PySem.W.mg_of X G c_WIDE⟩,
    ⟨_, PySem.W.mg_of X G c_ALONE, tupK_mk l_ALONE v_ALONE z_ALONE⟩,
    ⟨_, PySem.W.mg_of X G c_OF_ONE, tupK_mk l_OF_ONE v_OF_ONE z_OF_ONE⟩,
    ⟨_, PySem.W.mg_of X G c_OF_TWO, tupK_mk l_OF_TWO v_OF_TWO z_OF_TWO⟩,
    ⟨_, PySem.W.mg_of X G c_OF_TWO_AND_ZERO, tupK_mk l_OF_TWO_AND_ZERO v_OF_TWO_AND_ZERO z_OF_TWO_AND_ZERO⟩,
    ⟨_, PySem.W.mg_of X G c_OF_THREE, tupK_mk l_OF_THREE v_OF_THREE z_OF_THREE⟩,
    ⟨_, PySem.W.mg_of X G c_WITH_PLACE, tupK_mk l_WITH_PLACE v_WITH_PLACE z_WITH_PLACE⟩,
    ⟨_, PySem.W.mg_of X G c_WITH_LIST, tupK_mk l_WITH_LIST v_WITH_LIST z_WITH_LIST⟩,
    ⟨_, PySem.W.mg_of X G c_WITH_BASE_AND_LIST, tupK_mk l_WITH_BASE_AND_LIST v_WITH_BASE_AND_LIST z_WITH_BASE_AND_LIST⟩,
    ⟨_, PySem.W.mg_of X G c_WITH_TARGET, tupK_mk l_WITH_TARGET v_WITH_TARGET z_WITH_TARGET⟩,
    ⟨_, PySem.W.mg_of X G c_SHIFTS, tupK_mk l_SHIFTS v_SHIFTS z_SHIFTS⟩,
    ⟨_, PySem.W.mg_of X G c_WITH_BYTE, tupK_mk l_WITH_BYTE v_WITH_BYTE z_WITH_BYTE⟩,
    ⟨_, PySem.W.mg_of X G c_TWO_LOW, tupK_mk l_TWO_LOW v_TWO_LOW z_TWO_LOW⟩,
    ⟨_, PySem.W.mg_of X G c_TWO_HIGH, tupK_mk l_TWO_HIGH v_TWO_HIGH z_TWO_HIGH⟩,
    ⟨_, PySem.W.mg_of X G c_BY_REGISTER, tupK_mk l_BY_REGISTER v_BY_REGISTER z_BY_REGISTER⟩,
    ⟨_, PySem.W.mg_of X G c_BY_NUMBER, _, _, _, _, _, _, tupK_mk l_BY_NUMBER v_BY_NUMBER z_BY_NUMBER, tupK_mk l_BY_NUMBER0 v_BY_NUMBER0 z_BY_NUMBER0, tupK_mk l_BY_NUMBER1 v_BY_NUMBER1 z_BY_NUMBER1, tupK_mk l_BY_NUMBER2 v_BY_NUMBER2 z_BY_NUMBER2, tupK_mk l_BY_NUMBER3 v_BY_NUMBER3 z_BY_NUMBER3, tupK_mk l_BY_NUMBER4 v_BY_NUMBER4 z_BY_NUMBER4, tupK_mk l_BY_NUMBER5 v_BY_NUMBER5 z_BY_NUMBER5⟩,
    ⟨_, PySem.W.mg_of X G c_EXTENSIONS, tupK_mk l_EXTENSIONS v_EXTENSIONS z_EXTENSIONS⟩,
    ⟨_, PySem.W.mg_of X G c_TURNS, tupK_mk l_TURNS v_TURNS z_TURNS⟩,
    ⟨_, PySem.W.mg_of X G c_ODDS, [f_stack_pointer, f_no_instruction, f_extension, f_no_instruction, f_push_list, f_push_list, f_no_instruction, f_no_instruction, f_no_instruction, f_no_instruction, f_turned_bytes, f_no_instruction, f_pop_list, f_pop_list, f_bkpt, f_hint], tupK_mk l_ODDS v_ODDS z_ODDS, (.cons (PySem.W.mg_of X G d_stack_pointer) (.cons (PySem.W.mg_of X G d_no_instruction) (.cons (PySem.W.mg_of X G d_extension) (.cons (PySem.W.mg_of X G d_no_instruction) (.cons (PySem.W.mg_of X G d_push_list) (.cons (PySem.W.mg_of X G d_push_list) (.cons (PySem.W.mg_of X G d_no_instruction) (.cons (PySem.W.mg_of X G d_no_instruction) (.cons (PySem.W.mg_of X G d_no_instruction) (.cons (PySem.W.mg_of X G d_no_instruction) (.cons (PySem.W.mg_of X G d_turned_bytes) (.cons (PySem.W.mg_of X G d_no_instruction) (.cons (PySem.W.mg_of X G d_pop_list) (.cons (PySem.W.mg_of X G d_pop_list) (.cons (PySem.W.mg_of X G d_bkpt) (.cons (PySem.W.mg_of X G d_hint) .nil))))))))))))))))⟩,
    ⟨_, PySem.W.mg_of X G c_BY_HIGHEST_BITS, [f_shift_by_number, f_shift_by_number, f_shift_by_number, f_sum_of_three, f_with_byte, f_with_byte, f_with_byte, f_with_byte, f_with_registers, f_load_from_program, f_move_by_register, f_move_by_register, f_move_by_number, f_move_by_number, f_move_by_number, f_move_by_number, f_move_by_number, f_move_by_number, f_move_on_stack, f_move_on_stack, f_place_in_program, f_place_on_stack, f_odds, f_odds, f_store_list, f_load_list, f_branch_if, f_branch_if, f_branch, f_no_instruction, f_no_instruction, f_no_instruction], tupK_mk l_BY_HIGHEST_BITS v_BY_HIGHEST_BITS z_BY_HIGHEST_BITS, (.cons (PySem.W.mg_of X G d_shift_by_number) (.cons (PySem.W.mg_of X G d_shift_by_number) (.cons (PySem.W.mg_of X G d_shift_by_number) (.cons (PySem.W.mg_of X G d_sum_of_three) (.cons (PySem.W.mg_of X G d_with_byte) (.cons (PySem.W.mg_of X G d_with_byte) (.cons (PySem.W.mg_of X G d_with_byte) (.cons (PySem.W.mg_of X G d_with_byte) (.cons (PySem.W.mg_of X G d_with_registers) (.cons (PySem.W.mg_of X G d_load_from_program) (.cons (PySem.W.mg_of X G d_move_by_register) (.cons (PySem.W.mg_of X G d_move_by_register) (.cons (PySem.W.mg_of X G d_move_by_number) (.cons (PySem.W.mg_of X G d_move_by_number) (.cons (PySem.W.mg_of X G d_move_by_number) (.cons (PySem.W.mg_of X G d_move_by_number) (.cons (PySem.W.mg_of X G d_move_by_number) (.cons (PySem.W.mg_of X G d_move_by_number) (.cons (PySem.W.mg_of X G d_move_on_stack) (.cons (PySem.W.mg_of X G d_move_on_stack) (.cons (PySem.W.mg_of X G d_place_in_program) (.cons (PySem.W.mg_of X G d_place_on_stack) (.cons (PySem.W.mg_of X G d_odds) (.cons (PySem.W.mg_of X G d_odds) (.cons (PySem.W.mg_of X G d_store_list) (.cons (PySem.W.mg_of X G d_load_list) (.cons (PySem.W.mg_of X G d_branch_if) (.cons (PySem.W.mg_of X G d_branch_if) (.cons (PySem.W.mg_of X G d_branch) (.cons (PySem.W.mg_of X G d_no_instruction) (.cons (PySem.W.mg_of X G d_no_instruction) (.cons (PySem.W.mg_of X G d_no_instruction) .nil))))))))))))))))))))))))))))))))⟩,
    ⟨_, PySem.W.mg_of X G c_REGISTERS, tupK_mk l_REGISTERS v_REGISTERS z_REGISTERS⟩,
    ⟨_, PySem.W.mg_of X G c_CONDITIONS, tupK_mk l_CONDITIONS v_CONDITIONS z_CONDITIONS⟩,
    ⟨_, PySem.W.mg_of X G c_DIGITS⟩,
    ⟨_, PySem.W.mg_of X G c_WRITTEN_LIKE, tabK_mk l_WRITTEN_LIKE s_WRITTEN_LIKE r_WRITTEN_LIKE⟩,
    ⟨_, PySem.W.mg_of X G c_WRITERS, [f_written_d, f_written_n, f_written_second, f_written_zero, f_written_place, f_written_base, f_written_list, f_written_target], tabK_mk l_WRITERS s_WRITERS r_WRITERS, (.cons (PySem.W.mg_of X G d_written_d) (.cons (PySem.W.mg_of X G d_written_n) (.cons (PySem.W.mg_of X G d_written_second) (.cons (PySem.W.mg_of X G d_written_zero) (.cons (PySem.W.mg_of X G d_written_place) (.cons (PySem.W.mg_of X G d_written_base) (.cons (PySem.W.mg_of X G d_written_list) (.cons (PySem.W.mg_of X G d_written_target) .nil))))))))⟩,
    def_mk X G d_memory_of k1_memory_of k2_memory_of k3_memory_of,
    def_mk X G d_half_at k1_half_at k2_half_at k3_half_at,
    def_mk X G d_with_sign k1_with_sign k2_with_sign k3_with_sign,
    def_mk X G d_no_instruction k1_no_instruction k2_no_instruction k3_no_instruction,
    def_mk X G d_shift_by_number k1_shift_by_number k2_shift_by_number k3_shift_by_number,
    def_mk X G d_sum_of_three k1_sum_of_three k2_sum_of_three k3_sum_of_three,
    def_mk X G d_with_byte k1_with_byte k2_with_byte k3_with_byte,
    def_mk X G d_with_registers k1_with_registers k2_with_registers k3_with_registers,
    def_mk X G d_with_high_registers k1_with_high_registers k2_with_high_registers k3_with_high_registers,
    def_mk X G d_branch_to_register k1_branch_to_register k2_branch_to_register k3_branch_to_register,
    def_mk X G d_load_from_program k1_load_from_program k2_load_from_program k3_load_from_program,
    def_mk X G d_move_by_register k1_move_by_register k2_move_by_register k3_move_by_register,
    def_mk X G d_move_by_number k1_move_by_number k2_move_by_number k3_move_by_number,
    def_mk X G d_move_on_stack k1_move_on_stack k2_move_on_stack k3_move_on_stack,
    def_mk X G d_place_in_program k1_place_in_program k2_place_in_program k3_place_in_program,
    def_mk X G d_place_on_stack k1_place_on_stack k2_place_on_stack k3_place_on_stack,
    def_mk X G d_stack_pointer k1_stack_pointer k2_stack_pointer k3_stack_pointer,
    def_mk X G d_extension k1_extension k2_extension k3_extension,
    def_mk X G d_turned_bytes k1_turned_bytes k2_turned_bytes k3_turned_bytes,
    def_mk X G d_listed k1_listed k2_listed k3_listed,
    def_mk X G d_push_list k1_push_list k2_push_list k3_push_list,
    def_mk X G d_pop_list k1_pop_list k2_pop_list k3_pop_list,
    def_mk X G d_bkpt k1_bkpt k2_bkpt k3_bkpt,
    def_mk X G d_hint k1_hint k2_hint k3_hint,
    def_mk X G d_odds k1_odds k2_odds k3_odds,
    def_mk X G d_store_list k1_store_list k2_store_list k3_store_list,
    def_mk X G d_load_list k1_load_list k2_load_list k3_load_list,
    def_mk X G d_branch_if k1_branch_if k2_branch_if k3_branch_if,
    def_mk X G d_branch k1_branch k2_branch k3_branch,
    def_mk X G d_wide k1_wide k2_wide k3_wide,
    def_mk X G d_distance k1_distance k2_distance k3_distance,
    def_mk X G d_is_first_half k1_is_first_half k2_is_first_half k3_is_first_half,
    def_mk X G d_instruction_at k1_instruction_at k2_instruction_at k3_instruction_at,
    def_mk X G d_length_of k1_length_of k2_length_of k3_length_of,
    def_mk X G d_hexadecimal k1_hexadecimal k2_hexadecimal k3_hexadecimal,
    def_mk X G d_written_d k1_written_d k2_written_d k3_written_d,
    def_mk X G d_written_n k1_written_n k2_written_n k3_written_n,
    def_mk X G d_written_second k1_written_second k2_written_second k3_written_second,
    def_mk X G d_written_zero k1_written_zero k2_written_zero k3_written_zero,
    def_mk X G d_written_place k1_written_place k2_written_place k3_written_place,
    def_mk X G d_written_base k1_written_base k2_written_base k3_written_base,
    def_mk X G d_written_list k1_written_list k2_written_list k3_written_list,
    def_mk X G d_written_target k1_written_target k2_written_target k3_written_target,
    def_mk X G d_written_name k1_written_name k2_written_name k3_written_name,
    def_mk X G d_instruction_text k1_instruction_text k2_instruction_text k3_instruction_text,
    def_mk X G d_half_text k1_half_text k2_half_text k3_half_text,
    def_mk X G d_show k1_show k2_show k3_show,
    def_mk X G d_bytes_of_text k1_bytes_of_text k2_bytes_of_text k3_bytes_of_text⟩
end Chip

namespace Chip
open PySem L2 LX PyProof.Rows
theorem nats_back {ns : List Int} (h : ∀ x ∈ ns, 0 ≤ x) : ns.map V.int = (ns.map Int.toNat).map vN := by
  rw [List.map_map]
  refine List.map_congr_left fun x hx => ?_
  show V.int x = V.int ((x.toNat : Nat) : Int)
  rw [Int.toNat_of_nonneg (h x hx)]
theorem nats_lt {ns : List Int} {lo hi : Int} {n : Nat} (h : ∀ x ∈ ns, lo ≤ x ∧ x ≤ hi) (h0 : 0 ≤ lo) (hn : hi < n) : ∀ x ∈ ns.map Int.toNat, x < n := fun x hx => by
  obtain ⟨y, hy, rfl⟩ := List.mem_map.mp hx
  have := h y hy
  omega
theorem memOf_eq (ps ds : List Int) : (Sd12Neutral.memOf ps ds).toList = memL (ps.map Int.toNat) (ds.map Int.toNat) := by
  unfold Sd12Neutral.memOf memL
  have z : ∀ (l : List (Int × Int)) (m : Array Nat), (l.foldl (fun (l : Array Nat) (x : Int × Int) => l.setIfInBounds x.1.toNat x.2.toNat) m).toList = (l.map fun x => (x.1.toNat, x.2.toNat)).foldl (fun m x => m.set x.1 x.2) m.toList := by
    intro l
    induction l with
    | nil => intro m; rfl
    | cons x l ih =>
      intro m
      rw [List.foldl_cons, ih, List.map_cons, List.foldl_cons, Array.toList_setIfInBounds]
  rw [z, Array.toList_replicate]
  congr 1
  rw [List.zip_map]
  rfl
theorem walk_show {q : Program} {loose : List Str} {XP : (Str → Option Value) → Heap → Prop} {YP : World → Heap → Prop} {d : PySem.DefRec} {K : Params → PySem.W.Frag} (hname : d.name = "show")
    (hY : ∀ (w : World) (h : Heap), YP w h → (K w.params).In h) (F : ∀ (w : World) (mg : Str → Option Value) (h : Heap), (K w.params).In h → h.Ns mainGlobals mg → Txt (K w.params) mg) :
    PySem.W.WalkOS q loose XP YP PySem.Challenge.rw_lesserchip_s02_show d [] (fun f vs => PySem.call f vs) := by
  intro w s₀ s₁ mg mb G Y fa o pm cd doc dV kV ho hd hcd hD hmg hg args vals as hpre hlay hrd hwl hlo
  have KX := hY w _ Y
  have T := F w mg _ KX G.T.g
  rw [hname] at hmg
  obtain ⟨a, e, ask⟩ := PySem.W.os_pre_some hpre
  have e0 : PySem.W.Codec.decAll [.int 0 4294967295, .list 0 60000 (.int 0 65535), .list 0 60000 (.int 0 255)] args = some a := e
  obtain ⟨d1, ds1, rfl, c1, e1⟩ := dec2 e0
  obtain ⟨d2, ds2, rfl, c2, e2⟩ := dec2 e1
  obtain ⟨d3, ds3, rfl, c3, e3⟩ := dec2 e2
  obtain rfl := dec_end e3
  obtain ⟨rfl, n1, n2⟩ := dec_one c1
  obtain ⟨rfl, _, p1, p2⟩ := dec_ints c2
  obtain ⟨rfl, _, b1, b2⟩ := dec_ints c3
  obtain ⟨n, ps, ds, ⟨⟩⟩ := a
  have ask : PySd12.show__asked n ps ds = true := ask
  have hlen : ps.length = ds.length := by
    have ask : (Sd12Neutral.natural n 32 && ((ps.all (fun (z : Int) => Sd12Neutral.natural z 16) && decide (ps.length ≤ 65536)) && (ds.all (fun (z : Int) => Sd12Neutral.natural z 8) && Sd12Neutral.long ds ps.length 0 65536))) = true := ask
    have a1 := (Bool.and_eq_true_iff.mp ask).2
    have a2 := of_decide_eq_true (Bool.and_eq_true_iff.mp (Bool.and_eq_true_iff.mp a1).1).2
    have z : (ds.length : Int) = if (0 : Int) ≤ (ps.length : Int) ∧ (ps.length : Int) ≤ 65536 then (ps.length : Int) else 0 := of_decide_eq_true (Bool.and_eq_true_iff.mp (Bool.and_eq_true_iff.mp a1).2).2
    rw [if_pos ⟨Int.natCast_nonneg _, Int.ofNat_le.mpr a2⟩] at z
    exact (Int.natCast_inj.mp z).symm
  cases hwl with
  | cons w1 hwl =>
    cases hwl with
    | cons w2 hwl =>
      cases hwl with
      | cons w3 hwl =>
        cases hwl
        obtain ⟨t, rfl⟩ := well_int w1
        obtain ⟨pa, rfl, hpa⟩ := well_list w2 (Nat.le_trans p1 (by decide))
        obtain ⟨da, rfl, hda⟩ := well_list w3 (Nat.le_trans b1 (by decide))
        have n1 : 0 ≤ n := n1
        have p2 : ∀ x ∈ ps, 0 ≤ x ∧ x ≤ 65535 := p2
        have b2 : ∀ x ∈ ds, 0 ≤ x ∧ x ≤ 255 := b2
        refine PySem.W.enter_call (codeAny_mono (spec_fn (out := PySd12.show_ n ps ds) (L := [pa, da]) (vs := [.int n, .ref pa, .ref da]) KX G.T.g G.T.b G.T.builtins G.T.nolimit hg (k := 5) ⟨rfl, by decide, by decide⟩ (fun a ha => ?_) (fun base _ _ => fn_show (P := _) (w := w) (base := base) T) hmg rfl (.cons ⟨t, rfl⟩ (.cons rfl (.cons rfl .nil))) ?_) fun r s' hq => spec_good hq ?_)
        · rcases List.mem_cons.mp ha with z | z
          · exact ⟨_, z ▸ hpa⟩
          · exact ⟨_, (List.mem_singleton.mp z) ▸ hda⟩
        · have sA : SqL (K w.params) (given (K w.params) s₁.heap [pa, da]) pa ((ps.map Int.toNat).map vN) := by
            rw [← nats_back fun x hx => (p2 x hx).1]
            exact (given_list KX (by simp) hpa).sq
          have sB : SqL (K w.params) (given (K w.params) s₁.heap [pa, da]) da ((ds.map Int.toNat).map vN) := by
            rw [← nats_back fun x hx => (b2 x hx).1]
            exact (given_list KX (by simp) hda).sq
          refine ⟨n.toNat, pa, da, _, _, ?_, sA, sB, ?_, nats_lt p2 (by decide) (by decide), nats_lt b2 (by decide) (by decide), fun l H' hl => ⟨l, rfl, hl.trans ?_⟩⟩
          · show [V.int n, _, _] = [V.int ((n.toNat : Nat) : Int), _, _]
            rw [Int.toNat_of_nonneg n1]
          · rw [List.length_map, List.length_map]
            exact hlen
          · show some (HO.lst ((showL _ _).map V.int)) = some (HO.lst ((showL (Sd12Neutral.memOf ps ds).toList n.toNat).map V.int))
            rw [memOf_eq]
        · exact PySem.W.os_post e (PySem.W.same_self _)
end Chip

end Internal
open Internal
open PySem PySem.W PyProof.Rows
set_option maxRecDepth 100000 in
set_option maxHeartbeats 0 in
theorem PySem.Challenge.cw_lesserchip_s02_show_holds : PySem.Challenge.rw_lesserchip_s02_show.Holds := by
  w_on; k_headS; (case hw => exact ⟨[.int 0, .list [], .list []], by decide +kernel, by decide +kernel⟩)
  k_fillS
  refine Chip.walk_show rfl (fun w h Y => PySem.W.kIn_of Y) ?F
  case F =>
    intro w mg h KX G
    refine' Chip.txt_mk KX G ?d_memory_of ?k1_memory_of ?k2_memory_of ?k3_memory_of ?d_half_at ?k1_half_at ?k2_half_at ?k3_half_at ?d_with_sign ?k1_with_sign ?k2_with_sign ?k3_with_sign ?d_no_instruction ?k1_no_instruction ?k2_no_instruction ?k3_no_instruction ?d_shift_by_number ?k1_shift_by_number ?k2_shift_by_number ?k3_shift_by_number ?d_sum_of_three ?k1_sum_of_three ?k2_sum_of_three ?k3_sum_of_three ?d_with_byte ?k1_with_byte ?k2_with_byte ?k3_with_byte ?d_with_registers ?k1_with_registers ?k2_with_registers ?k3_with_registers ?d_with_high_registers ?k1_with_high_registers ?k2_with_high_registers ?k3_with_high_registers ?d_branch_to_register ?k1_branch_to_register ?k2_branch_to_register ?k3_branch_to_register ?d_load_from_program ?k1_load_from_program ?k2_load_from_program ?k3_load_from_program ?d_move_by_register ?k1_move_by_register ?k2_move_by_register ?k3_move_by_register ?d_move_by_number ?k1_move_by_number ?k2_move_by_number ?k3_move_by_number ?d_move_on_stack ?k1_move_on_stack ?k2_move_on_stack ?k3_move_on_stack ?d_place_in_program ?k1_place_in_program ?k2_place_in_program ?k3_place_in_program ?d_place_on_stack ?k1_place_on_stack ?k2_place_on_stack ?k3_place_on_stack ?d_stack_pointer ?k1_stack_pointer ?k2_stack_pointer ?k3_stack_pointer ?d_extension ?k1_extension ?k2_extension ?k3_extension ?d_turned_bytes ?k1_turned_bytes ?k2_turned_bytes ?k3_turned_bytes ?d_listed ?k1_listed ?k2_listed ?k3_listed ?d_push_list ?k1_push_list ?k2_push_list ?k3_push_list ?d_pop_list ?k1_pop_list ?k2_pop_list ?k3_pop_list ?d_bkpt ?k1_bkpt ?k2_bkpt ?k3_bkpt ?d_hint ?k1_hint ?k2_hint ?k3_hint ?d_odds ?k1_odds ?k2_odds ?k3_odds ?d_store_list ?k1_store_list ?k2_store_list ?k3_store_list ?d_load_list ?k1_load_list ?k2_load_list ?k3_load_list ?d_branch_if ?k1_branch_if ?k2_branch_if ?k3_branch_if ?d_branch ?k1_branch ?k2_branch ?k3_branch ?d_wide ?k1_wide ?k2_wide ?k3_wide ?d_distance ?k1_distance ?k2_distance ?k3_distance ?d_is_first_half ?k1_is_first_half ?k2_is_first_half ?k3_is_first_half ?d_instruction_at ?k1_instruction_at ?k2_instruction_at ?k3_instruction_at ?d_length_of ?k1_length_of ?k2_length_of ?k3_length_of ?d_hexadecimal ?k1_hexadecimal ?k2_hexadecimal ?k3_hexadecimal ?d_written_d ?k1_written_d ?k2_written_d ?k3_written_d ?d_written_n ?k1_written_n ?k2_written_n ?k3_written_n ?d_written_second ?k1_written_second ?k2_written_second ?k3_written_second ?d_written_zero ?k1_written_zero ?k2_written_zero ?k3_written_zero ?d_written_place ?k1_written_place ?k2_written_place ?k3_written_place ?d_written_base ?k1_written_base ?k2_written_base ?k3_written_base ?d_written_list ?k1_written_list ?k2_written_list ?k3_written_list ?d_written_target ?k1_written_target ?k2_written_target ?k3_written_target ?d_written_name ?k1_written_name ?k2_written_name ?k3_written_name ?d_instruction_text ?k1_instruction_text ?k2_instruction_text ?k3_instruction_text ?d_half_text ?k1_half_text ?k2_half_text ?k3_half_text ?d_show ?k1_show ?k2_show ?k3_show ?d_bytes_of_text ?k1_bytes_of_text ?k2_bytes_of_text ?k3_bytes_of_text ?n_len ?n_ord ?n_range ?n_tuple ?n_zip ?c_SIZE ?c_WORD ?c_SP ?c_LR ?c_PC ?c_NONE ?l_NONE ?v_NONE ?z_NONE ?l_NONE2 ?v_NONE2 ?z_NONE2 ?c_WIDE ?c_ALONE ?l_ALONE ?v_ALONE ?z_ALONE ?c_OF_ONE ?l_OF_ONE ?v_OF_ONE ?z_OF_ONE ?c_OF_TWO ?l_OF_TWO ?v_OF_TWO ?z_OF_TWO ?c_OF_TWO_AND_ZERO ?l_OF_TWO_AND_ZERO ?v_OF_TWO_AND_ZERO ?z_OF_TWO_AND_ZERO ?c_OF_THREE ?l_OF_THREE ?v_OF_THREE ?z_OF_THREE ?c_WITH_PLACE ?l_WITH_PLACE ?v_WITH_PLACE ?z_WITH_PLACE ?c_WITH_LIST ?l_WITH_LIST ?v_WITH_LIST ?z_WITH_LIST ?c_WITH_BASE_AND_LIST ?l_WITH_BASE_AND_LIST ?v_WITH_BASE_AND_LIST ?z_WITH_BASE_AND_LIST ?c_WITH_TARGET ?l_WITH_TARGET ?v_WITH_TARGET ?z_WITH_TARGET ?c_SHIFTS ?l_SHIFTS ?v_SHIFTS ?z_SHIFTS ?c_WITH_BYTE ?l_WITH_BYTE ?v_WITH_BYTE ?z_WITH_BYTE ?c_TWO_LOW ?l_TWO_LOW ?v_TWO_LOW ?z_TWO_LOW ?c_TWO_HIGH ?l_TWO_HIGH ?v_TWO_HIGH ?z_TWO_HIGH ?c_BY_REGISTER ?l_BY_REGISTER ?v_BY_REGISTER ?z_BY_REGISTER ?c_BY_NUMBER ?l_BY_NUMBER ?v_BY_NUMBER ?z_BY_NUMBER ?l_BY_NUMBER0 ?v_BY_NUMBER0 ?z_BY_NUMBER0 ?l_BY_NUMBER1 ?v_BY_NUMBER1 ?z_BY_NUMBER1 ?l_BY_NUMBER2 ?v_BY_NUMBER2 ?z_BY_NUMBER2 ?l_BY_NUMBER3 ?v_BY_NUMBER3 ?z_BY_NUMBER3 ?l_BY_NUMBER4 ?v_BY_NUMBER4 ?z_BY_NUMBER4 ?l_BY_NUMBER5 ?v_BY_NUMBER5 ?z_BY_NUMBER5 ?c_EXTENSIONS ?l_EXTENSIONS ?v_EXTENSIONS ?z_EXTENSIONS ?c_TURNS ?l_TURNS ?v_TURNS ?z_TURNS ?c_ODDS ?l_ODDS ?v_ODDS ?z_ODDS ?c_BY_HIGHEST_BITS ?l_BY_HIGHEST_BITS ?v_BY_HIGHEST_BITS ?z_BY_HIGHEST_BITS ?c_REGISTERS ?l_REGISTERS ?v_REGISTERS ?z_REGISTERS ?c_CONDITIONS ?l_CONDITIONS ?v_CONDITIONS ?z_CONDITIONS ?c_DIGITS ?c_WRITTEN_LIKE ?l_WRITTEN_LIKE ?s_WRITTEN_LIKE ?r_WRITTEN_LIKE ?c_WRITERS ?l_WRITERS ?s_WRITERS ?r_WRITERS
    (case d_memory_of => k_is)
    (case k1_memory_of => k_is)
    (case k2_memory_of => k_is)
    (case k3_memory_of => k_is)
    (case d_half_at => k_is)
    (case k1_half_at => k_is)
    (case k2_half_at => k_is)
    (case k3_half_at => k_is)
    (case d_with_sign => k_is)
    (case k1_with_sign => k_is)
    (case k2_with_sign => k_is)
    (case k3_with_sign => k_is)
    (case d_no_instruction => k_is)
    (case k1_no_instruction => k_is)
    (case k2_no_instruction => k_is)
    (case k3_no_instruction => k_is)
    (case d_shift_by_number => k_is)
    (case k1_shift_by_number => k_is)
    (case k2_shift_by_number => k_is)
    (case k3_shift_by_number => k_is)
    (case d_sum_of_three => k_is)
    (case k1_sum_of_three => k_is)
    (case k2_sum_of_three => k_is)
    (case k3_sum_of_three => k_is)
    (case d_with_byte => k_is)
    (case k1_with_byte => k_is)
    (case k2_with_byte => k_is)
    (case k3_with_byte => k_is)
    (case d_with_registers => k_is)
    (case k1_with_registers => k_is)
    (case k2_with_registers => k_is)
    (case k3_with_registers => k_is)
    (case d_with_high_registers => k_is)
    (case k1_with_high_registers => k_is)
    (case k2_with_high_registers => k_is)
    (case k3_with_high_registers => k_is)
    (case d_branch_to_register => k_is)
    (case k1_branch_to_register => k_is)
    (case k2_branch_to_register => k_is)
    (case k3_branch_to_register => k_is)
    (case d_load_from_program => k_is)
    (case k1_load_from_program => k_is)
    (case k2_load_from_program => k_is)
    (case k3_load_from_program => k_is)
    (case d_move_by_register => k_is)
    (case k1_move_by_register => k_is)
    (case k2_move_by_register => k_is)
    (case k3_move_by_register => k_is)
    (case d_move_by_number => k_is)
    (case k1_move_by_number => k_is)
    (case k2_move_by_number => k_is)
    (case k3_move_by_number => k_is)
    (case d_move_on_stack => k_is)
    (case k1_move_on_stack => k_is)
    (case k2_move_on_stack => k_is)
    (case k3_move_on_stack => k_is)
    (case d_place_in_program => k_is)
    (case k1_place_in_program => k_is)
    (case k2_place_in_program => k_is)
    (case k3_place_in_program => k_is)
    (case d_place_on_stack => k_is)
    (case k1_place_on_stack => k_is)
    (case k2_place_on_stack => k_is)
    (case k3_place_on_stack => k_is)
    (case d_stack_pointer => k_is)
    (case k1_stack_pointer => k_is)
    (case k2_stack_pointer => k_is)
    (case k3_stack_pointer => k_is)
    (case d_extension => k_is)
    (case k1_extension => k_is)
    (case k2_extension => k_is)
    (case k3_extension => k_is)
    (case d_turned_bytes => k_is)
    (case k1_turned_bytes => k_is)
    (case k2_turned_bytes => k_is)
    (case k3_turned_bytes => k_is)
    (case d_listed => k_is)
    (case k1_listed => k_is)
    (case k2_listed => k_is)
    (case k3_listed => k_is)
    (case d_push_list => k_is)
    (case k1_push_list => k_is)
    (case k2_push_list => k_is)
    (case k3_push_list => k_is)
    (case d_pop_list => k_is)
    (case k1_pop_list => k_is)
    (case k2_pop_list => k_is)
    (case k3_pop_list => k_is)
    (case d_bkpt => k_is)
    (case k1_bkpt => k_is)
    (case k2_bkpt => k_is)
    (case k3_bkpt => k_is)
    (case d_hint => k_is)
    (case k1_hint => k_is)
    (case k2_hint => k_is)
    (case k3_hint => k_is)
    (case d_odds => k_is)
    (case k1_odds => k_is)
    (case k2_odds => k_is)
    (case k3_odds => k_is)
    (case d_store_list => k_is)
    (case k1_store_list => k_is)
    (case k2_store_list => k_is)
    (case k3_store_list => k_is)
    (case d_load_list => k_is)
    (case k1_load_list => k_is)
    (case k2_load_list => k_is)
    (case k3_load_list => k_is)
    (case d_branch_if => k_is)
    (case k1_branch_if => k_is)
    (case k2_branch_if => k_is)
    (case k3_branch_if => k_is)
    (case d_branch => k_is)
    (case k1_branch => k_is)
    (case k2_branch => k_is)
    (case k3_branch => k_is)
    (case d_wide => k_is)
    (case k1_wide => k_is)
    (case k2_wide => k_is)
    (case k3_wide => k_is)
    (case d_distance => k_is)
    (case k1_distance => k_is)
    (case k2_distance => k_is)
    (case k3_distance => k_is)
    (case d_is_first_half => k_is)
    (case k1_is_first_half => k_is)
    (case k2_is_first_half => k_is)
    (case k3_is_first_half => k_is)
    (case d_instruction_at => k_is)
    (case k1_instruction_at => k_is)
    (case k2_instruction_at => k_is)
    (case k3_instruction_at => k_is)
    (case d_length_of => k_is)
    (case k1_length_of => k_is)
    (case k2_length_of => k_is)
    (case k3_length_of => k_is)
    (case d_hexadecimal => k_is)
    (case k1_hexadecimal => k_is)
    (case k2_hexadecimal => k_is)
    (case k3_hexadecimal => k_is)
    (case d_written_d => k_is)
    (case k1_written_d => k_is)
    (case k2_written_d => k_is)
    (case k3_written_d => k_is)
    (case d_written_n => k_is)
    (case k1_written_n => k_is)
    (case k2_written_n => k_is)
    (case k3_written_n => k_is)
    (case d_written_second => k_is)
    (case k1_written_second => k_is)
    (case k2_written_second => k_is)
    (case k3_written_second => k_is)
    (case d_written_zero => k_is)
    (case k1_written_zero => k_is)
    (case k2_written_zero => k_is)
    (case k3_written_zero => k_is)
    (case d_written_place => k_is)
    (case k1_written_place => k_is)
    (case k2_written_place => k_is)
    (case k3_written_place => k_is)
    (case d_written_base => k_is)
    (case k1_written_base => k_is)
    (case k2_written_base => k_is)
    (case k3_written_base => k_is)
    (case d_written_list => k_is)
    (case k1_written_list => k_is)
    (case k2_written_list => k_is)
    (case k3_written_list => k_is)
    (case d_written_target => k_is)
    (case k1_written_target => k_is)
    (case k2_written_target => k_is)
    (case k3_written_target => k_is)
    (case d_written_name => k_is)
    (case k1_written_name => k_is)
    (case k2_written_name => k_is)
    (case k3_written_name => k_is)
    (case d_instruction_text => k_is)
    (case k1_instruction_text => k_is)
    (case k2_instruction_text => k_is)
    (case k3_instruction_text => k_is)
    (case d_half_text => k_is)
    (case k1_half_text => k_is)
    (case k2_half_text => k_is)
    (case k3_half_text => k_is)
    (case d_show => k_is)
    (case k1_show => k_is)
    (case k2_show => k_is)
    (case k3_show => k_is)
    (case d_bytes_of_text => k_is)
    (case k1_bytes_of_text => k_is)
    (case k2_bytes_of_text => k_is)
    (case k3_bytes_of_text => k_is)
    (case n_len => k_is)
    (case n_ord => k_is)
    (case n_range => k_is)
    (case n_tuple => k_is)
    (case n_zip => k_is)
    (case c_SIZE => k_is)
    (case c_WORD => k_is)
    (case c_SP => k_is)
    (case c_LR => k_is)
    (case c_PC => k_is)
    (case c_NONE => k_is)
    (case l_NONE => k_is)
    (case v_NONE => rfl)
    (case z_NONE => decide)
    (case l_NONE2 => k_is)
    (case v_NONE2 => rfl)
    (case z_NONE2 => decide)
    (case c_WIDE => k_is)
    (case c_ALONE => k_is)
    (case l_ALONE => k_is)
    (case v_ALONE => rfl)
    (case z_ALONE => decide)
    (case c_OF_ONE => k_is)
    (case l_OF_ONE => k_is)
    (case v_OF_ONE => rfl)
    (case z_OF_ONE => decide)
    (case c_OF_TWO => k_is)
    (case l_OF_TWO => k_is)
    (case v_OF_TWO => rfl)
    (case z_OF_TWO => decide)
    (case c_OF_TWO_AND_ZERO => k_is)
    (case l_OF_TWO_AND_ZERO => k_is)
    (case v_OF_TWO_AND_ZERO => rfl)
    (case z_OF_TWO_AND_ZERO => decide)
    (case c_OF_THREE => k_is)
    (case l_OF_THREE => k_is)
    (case v_OF_THREE => rfl)
    (case z_OF_THREE => decide)
    (case c_WITH_PLACE => k_is)
    (case l_WITH_PLACE => k_is)
    (case v_WITH_PLACE => rfl)
    (case z_WITH_PLACE => decide)
    (case c_WITH_LIST => k_is)
    (case l_WITH_LIST => k_is)
    (case v_WITH_LIST => rfl)
    (case z_WITH_LIST => decide)
    (case c_WITH_BASE_AND_LIST => k_is)
    (case l_WITH_BASE_AND_LIST => k_is)
    (case v_WITH_BASE_AND_LIST => rfl)
    (case z_WITH_BASE_AND_LIST => decide)
    (case c_WITH_TARGET => k_is)
    (case l_WITH_TARGET => k_is)
    (case v_WITH_TARGET => rfl)
    (case z_WITH_TARGET => decide)
    (case c_SHIFTS => k_is)
    (case l_SHIFTS => k_is)
    (case v_SHIFTS => rfl)
    (case z_SHIFTS => decide)
    (case c_WITH_BYTE => k_is)
    (case l_WITH_BYTE => k_is)
    (case v_WITH_BYTE => rfl)
    (case z_WITH_BYTE => decide)
    (case c_TWO_LOW => k_is)
    (case l_TWO_LOW => k_is)
    (case v_TWO_LOW => rfl)
    (case z_TWO_LOW => decide)
    (case c_TWO_HIGH => k_is)
    (case l_TWO_HIGH => k_is)
    (case v_TWO_HIGH => rfl)
    (case z_TWO_HIGH => decide)
    (case c_BY_REGISTER => k_is)
    (case l_BY_REGISTER => k_is)
    (case v_BY_REGISTER => rfl)
    (case z_BY_REGISTER => decide)
    (case c_BY_NUMBER => k_is)
    (case l_BY_NUMBER => k_is)
    (case v_BY_NUMBER => rfl)
    (case z_BY_NUMBER => decide)
    (case l_BY_NUMBER0 => k_is)
    (case v_BY_NUMBER0 => rfl)
    (case z_BY_NUMBER0 => decide)
    (case l_BY_NUMBER1 => k_is)
    (case v_BY_NUMBER1 => rfl)
    (case z_BY_NUMBER1 => decide)
    (case l_BY_NUMBER2 => k_is)
    (case v_BY_NUMBER2 => rfl)
    (case z_BY_NUMBER2 => decide)
    (case l_BY_NUMBER3 => k_is)
    (case v_BY_NUMBER3 => rfl)
    (case z_BY_NUMBER3 => decide)
    (case l_BY_NUMBER4 => k_is)
    (case v_BY_NUMBER4 => rfl)
    (case z_BY_NUMBER4 => decide)
    (case l_BY_NUMBER5 => k_is)
    (case v_BY_NUMBER5 => rfl)
    (case z_BY_NUMBER5 => decide)
    (case c_EXTENSIONS => k_is)
    (case l_EXTENSIONS => k_is)
    (case v_EXTENSIONS => rfl)
    (case z_EXTENSIONS => decide)
    (case c_TURNS => k_is)
    (case l_TURNS => k_is)
    (case v_TURNS => rfl)
    (case z_TURNS => decide)
    (case c_ODDS => k_is)
    (case l_ODDS => k_is)
    (case v_ODDS => rfl)
    (case z_ODDS => decide)
    (case c_BY_HIGHEST_BITS => k_is)
    (case l_BY_HIGHEST_BITS => k_is)
    (case v_BY_HIGHEST_BITS => rfl)
    (case z_BY_HIGHEST_BITS => decide)
    (case c_REGISTERS => k_is)
    (case l_REGISTERS => k_is)
    (case v_REGISTERS => rfl)
    (case z_REGISTERS => decide)
    (case c_CONDITIONS => k_is)
    (case l_CONDITIONS => k_is)
    (case v_CONDITIONS => rfl)
    (case z_CONDITIONS => decide)
    (case c_DIGITS => k_is)
    (case c_WRITTEN_LIKE => k_is)
    (case l_WRITTEN_LIKE => k_is)
    (case s_WRITTEN_LIKE => decide)
    (case r_WRITTEN_LIKE => exact (.cons rfl ⟨_, rfl⟩ (.cons rfl ⟨_, rfl⟩ .nil)))
    (case c_WRITERS => k_is)
    (case l_WRITERS => k_is)
    (case s_WRITERS => decide)
    (case r_WRITERS => exact (.cons rfl rfl (.cons rfl rfl (.cons rfl rfl (.cons rfl rfl (.cons rfl rfl (.cons rfl rfl (.cons rfl rfl (.cons rfl rfl .nil)))))))))
